import unittest

from lampring.brass import bands_of, best_cutting, strips_after
from lampring.making import make_lantern
from lampring.shop import Shop
from line import ask, brass, first, last, make, panes, rings, stocked


def shop_with(strips, stock=99):
    shop = Shop(100, [[10, 0]])
    shop.strips = list(strips)
    shop.stock = [stock]
    return shop


class Make(unittest.TestCase):
    def test_answer(self):
        told = last(*stocked(100, (5, 0, 9), (10, 0, 2)), brass(3), make(30))
        self.assertEqual(told, [0, 4, 0, 0, 1, 1, 0, 0, 0])

    def test_ring_is_what_first_tells(self):
        calls = stocked(200, (5, 0, 9), (10, 1, 9), (9, 0, 9)) + [brass(8)]
        for girth in (23, 24, 28, 30, 33, 38):
            told = ask(*calls, first(girth), make(girth))
            self.assertEqual(told[-1][1:-3], told[-2], girth)

    def test_panes_come_out_of_the_stock(self):
        told = ask(*stocked(100, (5, 0, 9), (10, 0, 3)), brass(8), make(30), panes(0, 0), panes(1, 0),
                   make(30), panes(0, 0), panes(1, 0))
        self.assertEqual(told[4:], [[0, 3, 1, 1, 1, 0, 0, 0], [9], [0],
                                    [1, 6, 0, 0, 0, 0, 0, 0, 0, 0, 0], [3], [0]])

    def test_numbers_from_0_on(self):
        told = ask(*stocked(200, (10, 0, 99)), brass(8), *[make(30)] * 7)
        self.assertEqual([answer[0] for answer in told[3:]], [0, 1, 2, 3, 4, 5, -5])

    def test_a_refusal_uses_no_number(self):
        told = ask(*stocked(100, (10, 0, 3)), make(30), make(2), make(31), brass(1), make(30))
        self.assertEqual([answer[0] for answer in told[2:]], [-7, -1, -6, 1, 0])

    def test_lantern_stands_without_oil(self):
        shop = shop_with([100])
        make_lantern(shop, 30)
        self.assertEqual(sorted(shop.lanterns), [0])
        lantern = shop.lanterns[0]
        self.assertEqual((lantern.girth, lantern.ring, lantern.oil), (30, [0, 0, 0], 0))


class Refusals(unittest.TestCase):
    def test_girths(self):
        shop = stocked(200, (1, 0, 9), (20, 0, 9)) + [brass(2)]
        self.assertEqual(last(*shop, make(3)), [0, 3, 0, 0, 0, 0, 0, 0])
        self.assertEqual(last(*shop, make(60)), [0, 3, 1, 1, 1, 0, 0, 0])
        for girth in (0, 1, 2, 61, 200):
            self.assertEqual(last(*shop, make(girth)), [-1], girth)

    def test_six_stand(self):
        six = stocked(200, (10, 0, 99)) + [brass(8)] + [make(30)] * 6
        self.assertEqual(last(*six, make(30)), [-5])

    def test_no_ring(self):
        for sort in ((10, 0, 2), (10, 1, 9), (11, 0, 9)):
            self.assertEqual(last(*stocked(100, sort), brass(8), make(30)), [-6])

    def test_no_cutting(self):
        self.assertEqual(last(*stocked(100, (10, 0, 9)), make(30)), [-7])
        # A girth of 30 wants a strip of 34 or longer, and two of 32.
        self.assertEqual(last(*stocked(33, (10, 0, 9)), brass(8), make(30)), [-7])
        self.assertEqual(last(*stocked(34, (10, 0, 9)), brass(2), make(30)), [-7])
        self.assertEqual(last(*stocked(34, (10, 0, 9)), brass(3), make(30)), [0, 3, 0, 0, 0, 0, 1, 2])
        self.assertEqual(last(*stocked(97, (10, 0, 9)), brass(1), make(30)), [-7])
        self.assertEqual(last(*stocked(98, (10, 0, 9)), brass(1), make(30)), [0, 3, 0, 0, 0, 0, 0, 0])

    def test_order(self):
        six = stocked(100, (10, 0, 18)) + [brass(6)] + [make(30)] * 6
        # Neither panes nor brass are left.
        self.assertEqual(ask(*six, panes(0, 0), brass(0))[-2:], [[0], [0]])
        self.assertEqual(last(*six, make(61)), [-1])
        self.assertEqual(last(*six, make(30)), [-5])
        self.assertEqual(last(*stocked(100, (10, 0, 2)), make(61)), [-1])
        self.assertEqual(last(*stocked(100, (10, 0, 2)), make(30)), [-6])
        self.assertEqual(last(*stocked(100, (10, 0, 3)), make(30)), [-7])

    def test_nothing_changes(self):
        for strips, stock, girth in (([100, 34, 32], 9, 61), ([33, 90], 2, 30), ([33, 33, 33], 9, 30)):
            shop = shop_with(strips, stock)
            self.assertLess(make_lantern(shop, girth)[0], 0)
            self.assertEqual((shop.strips, shop.stock, shop.lanterns, shop.made), (strips, [stock], {}, 0))

    def test_nothing_changes_when_six_stand(self):
        six = stocked(200, (10, 0, 99)) + [brass(6)] + [make(30)] * 6
        told = ask(*six, panes(0, 0), brass(0), make(30), panes(0, 0), brass(0), rings(30))
        self.assertEqual(told[-6:], [[81], [3], [-5], [81], [3], [1, 0, 0, 0]])


class Cutting(unittest.TestCase):
    def cut(self, girth, *strips):
        return best_cutting(list(strips), bands_of(girth))

    def test_bands(self):
        self.assertEqual(bands_of(30), [34, 32, 32])

    def test_first_band_is_the_longer_one(self):
        self.assertEqual(self.cut(30, 32, 32, 34), [2, 0, 1])
        self.assertEqual(self.cut(30, 34, 32, 32), [0, 1, 2])
        self.assertEqual(self.cut(30, 33, 33, 33), [])

    def test_fewest_begun(self):
        # Three strips would leave nothing over, one leaves 102.
        self.assertEqual(self.cut(30, 34, 32, 32, 200), [3, 3, 3])
        self.assertEqual(self.cut(30, 34, 64, 32, 97), [0, 1, 1])
        # Two strips, though three would leave nothing over.
        self.assertEqual(self.cut(30, 34, 32, 32, 90), [3, 1, 3])

    def test_least_left_over_of_those_begun(self):
        self.assertEqual(self.cut(30, 200, 99, 150, 98), [3, 3, 3])
        self.assertEqual(self.cut(30, 200, 99, 150), [1, 1, 1])
        # 66 and 34 leave 2 together, any other two leave more.
        self.assertEqual(self.cut(30, 70, 34, 66, 35), [1, 2, 2])
        # 64 and 37 leave 3 together, any other two leave more.
        self.assertEqual(self.cut(30, 64, 40, 66, 37), [3, 0, 0])

    def test_scrap_counts_as_left_over(self):
        # 103 would leave a strip of 5, 102 leaves 4, which is scrap.
        self.assertEqual(self.cut(30, 103, 102), [1, 1, 1])

    def test_strips_that_are_not_begun_do_not_count(self):
        self.assertEqual(self.cut(30, 20, 150, 20, 149, 20), [3, 3, 3])

    def test_first_of_as_good_ones(self):
        self.assertEqual(self.cut(30, 100, 100), [0, 0, 0])
        self.assertEqual(self.cut(30, 50, 100, 100), [1, 1, 1])
        self.assertEqual(self.cut(30, 66, 66), [0, 0, 1])
        self.assertEqual(self.cut(30, 50, 70, 50), [0, 1, 1])
        self.assertEqual(self.cut(30, 50, 50, 50, 50), [0, 1, 2])

    def test_no_more_than_a_strip_is_long(self):
        self.assertEqual(self.cut(30), [])
        self.assertEqual(self.cut(30, 97), [])
        self.assertEqual(self.cut(30, 65, 33), [])
        self.assertEqual(self.cut(30, 65, 32), [])
        self.assertEqual(self.cut(30, 66, 31), [])
        self.assertEqual(self.cut(30, 66, 32), [0, 0, 1])

    def test_eight_strips(self):
        self.assertEqual(self.cut(60, 62, 62, 61, 61, 61, 61, 61, 64), [7, 0, 1])


class Leavings(unittest.TestCase):
    def test_five_stays_and_less_is_scrap(self):
        for new, strips in ((98, 0), (99, 0), (102, 0), (103, 1), (104, 1)):
            self.assertEqual(last(*stocked(new, (10, 0, 9)), brass(1), make(30), brass(0)), [strips], new)

    def test_stays_in_its_place(self):
        bands = bands_of(30)
        self.assertEqual(strips_after([200, 103, 90], bands, [1, 1, 1]), [200, 5, 90])
        self.assertEqual(strips_after([50, 80, 60], bands, [0, 1, 1]), [16, 16, 60])

    def test_strips_behind_move_up(self):
        bands = bands_of(30)
        self.assertEqual(strips_after([200, 102, 90], bands, [1, 1, 1]), [200, 90])
        self.assertEqual(strips_after([34, 50, 36, 77], bands, [0, 1, 2]), [18, 77])
        self.assertEqual(strips_after([38, 36, 32], bands, [0, 1, 2]), [])

    def test_numbers_are_those_before_anything_is_cut(self):
        shop = shop_with([34, 32, 32, 40])
        self.assertEqual(make_lantern(shop, 30)[-3:], [0, 1, 2])
        self.assertEqual(shop.strips, [40])

    def test_what_is_left_is_cut_again(self):
        # 200 - 98 = 102, and 102 - 98 = 4 is scrap.
        told = ask(*stocked(200, (10, 0, 99)), brass(2), make(30), brass(0), make(30), brass(0), make(30))
        self.assertEqual(told[3:], [[0, 3, 0, 0, 0, 0, 0, 0], [2], [1, 3, 0, 0, 0, 0, 0, 0], [1],
                                    [2, 3, 0, 0, 0, 0, 0, 0]])

    def test_room_for_new_strips_once_some_are_scrap(self):
        told = ask(*stocked(100, (10, 0, 99)), brass(8), brass(1), make(30), brass(0), brass(2), brass(1))
        self.assertEqual(told[-5:], [[-1], [0, 3, 0, 0, 0, 0, 0, 0], [7], [-1], [8]])


if __name__ == "__main__":
    unittest.main()
