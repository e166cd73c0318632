import unittest

from lampring.counts import tell_strips
from lampring.making import make_lantern
from lampring.shop import Shop
from line import ask, begin, brass, fill, glass, last, lit, make, mend, night, panes, sell, stocked, strips, top


def all_glass(told):
    """How many panes of each sort have come, by what glass tells."""
    return [sum(told[at:at + 3]) for at in range(0, len(told), 3)]


class Glass(unittest.TestCase):
    SHOP = stocked(200, (10, 0, 20), (5, 1, 7), (10, 0, 0))

    def test_new_shop(self):
        for count in (1, 2, 3, 4):
            self.assertEqual(last(begin(100, *[(10, 0)] * count), glass()), [0, 0, 0] * count)

    def test_panes(self):
        self.assertEqual(last(*self.SHOP, glass()), [20, 0, 0, 7, 0, 0, 0, 0, 0])
        self.assertEqual(last(*self.SHOP, panes(0, 80), panes(2, 4), glass()), [20, 0, 0, 7, 0, 0, 4, 0, 0])

    def test_make(self):
        told = ask(*self.SHOP, brass(3), make(25), glass(), make(40), glass(), make(61), make(33), glass())
        self.assertEqual(told[-6], [18, 2, 0, 6, 1, 0, 0, 0, 0])
        self.assertEqual(told[-4], [14, 6, 0, 6, 1, 0, 0, 0, 0])
        self.assertEqual(told[-3:], [[-1], [-6], told[-4]])

    def test_mend_with_the_same_sort(self):
        calls = self.SHOP + [brass(3), make(25)]
        self.assertEqual(last(*calls, mend(0, 0), glass()), [17, 2, 1, 6, 1, 0, 0, 0, 0])
        self.assertEqual(last(*calls, mend(0, 2), mend(0, 2), glass()), [18, 2, 0, 4, 1, 2, 0, 0, 0])

    def test_mend_with_another_sort(self):
        calls = stocked(200, (10, 0, 3), (10, 0, 5)) + [brass(1), make(30)]
        told = ask(*calls, mend(0, 1), glass(), mend(0, 1), glass())
        self.assertEqual(told[-3:], [[0, 2, 1, 4, 1, 0], [1], [0, 2, 1, 3, 1, 1]])

    def test_sell(self):
        calls = self.SHOP + [brass(3), make(25), make(40)]
        told = ask(*calls, sell(0), glass(), sell(0), glass(), sell(1), glass())
        self.assertEqual(told[-5], [14, 4, 2, 6, 0, 1, 0, 0, 0])
        self.assertEqual(told[-3], told[-5])
        self.assertEqual(told[-1], [14, 0, 6, 6, 0, 1, 0, 0, 0])

    def test_mend_then_sell(self):
        calls = stocked(200, (10, 0, 3), (10, 0, 5)) + [brass(1), make(30), mend(0, 1), sell(0)]
        self.assertEqual(last(*calls, glass()), [0, 0, 3, 4, 0, 1])

    def test_together_they_are_what_came(self):
        calls = stocked(200, (10, 0, 30), (5, 1, 9), (10, 1, 8)) + [brass(8), make(25), make(40), make(50)]
        for call in (mend(0, 2), mend(1, 0), sell(0), make(30), panes(1, 0), mend(1, 9), sell(2), sell(2), night()):
            calls.append(call)
            self.assertEqual(all_glass(last(*calls, glass())), [30, 9, 8])
        self.assertEqual(all_glass(last(*calls, panes(2, 5), panes(0, 99), glass())), [30, 9, 13])

    def test_oil_does_not_count(self):
        told = ask(*lit([30]), glass(), fill(0, 5), night(), top(), glass())
        self.assertEqual(told[-5], told[-1])


class Strips(unittest.TestCase):
    def test_new_shop(self):
        self.assertEqual(last(begin(100, (10, 0)), strips()), [0, 0, 0, 0, 0])

    def test_brass(self):
        told = ask(begin(77, (10, 0)), brass(2), strips(), brass(0), strips(), brass(7), strips(), brass(6), strips())
        self.assertEqual(told[2], [154, 0, 0, 0, 2, 77, 77])
        self.assertEqual(told[4], told[2])
        self.assertEqual(told[6], told[2])
        self.assertEqual(told[8], [616, 0, 0, 0, 8] + [77] * 8)

    def test_scrap_of_0_to_4_and_a_strip_of_just_5(self):
        # A girth of 30 wants 34 + 32 + 32 = 98.
        for scrap in (0, 1, 2, 3, 4):
            calls = stocked(98 + scrap, (10, 0, 9)) + [brass(1), make(30)]
            self.assertEqual(last(*calls, strips()), [98 + scrap, 98, scrap, 0, 0])
        for left in (5, 6, 90):
            calls = stocked(98 + left, (10, 0, 9)) + [brass(1), make(30)]
            self.assertEqual(last(*calls, strips()), [98 + left, 98, 0, 0, 1, left])

    def test_scrap_of_several_strips(self):
        calls = stocked(36, (10, 0, 9)) + [brass(4), make(30)]
        self.assertEqual(last(*calls, strips()), [144, 98, 2 + 4 + 4, 0, 1, 36])
        # 37 leaves 3, 5 and 5.
        calls = stocked(37, (10, 0, 9)) + [brass(4), make(30)]
        self.assertEqual(last(*calls, strips()), [148, 98, 3, 0, 3, 5, 5, 37])

    def test_scrap_adds_up(self):
        calls = stocked(100, (10, 0, 99)) + [brass(3), make(30), make(30)]
        self.assertEqual(last(*calls, strips()), [300, 196, 4, 0, 1, 100])

    def test_strips_in_their_places(self):
        # The girth of 12 wants 44, that of 60 wants 188.
        calls = stocked(200, (4, 0, 9), (20, 0, 9)) + [brass(2), make(12), brass(1), make(60)]
        self.assertEqual(last(*calls, strips()), [600, 44 + 188, 0, 0, 3, 156, 12, 200])

    def test_strips_move_up(self):
        shop = Shop(100, [[10, 0]])
        shop.stock = [99]
        shop.strips = [40, 99, 120]
        self.assertEqual(make_lantern(shop, 30)[-3:], [1, 1, 1])
        self.assertEqual(tell_strips(shop)[1:], [98, 1, 0, 2, 40, 120])

    def test_sell(self):
        calls = stocked(100, (10, 0, 99), (5, 0, 1)) + [brass(4), make(30), make(25)]
        told = ask(*calls, strips(), sell(0), strips(), sell(0), strips(), sell(1), strips())
        self.assertEqual(told[-7::2], [[400, 98 + 83, 2, 0, 3, 17, 100, 100], [400, 83, 2, 98, 3, 17, 100, 100],
                                       [400, 83, 2, 98, 3, 17, 100, 100], [400, 0, 2, 98 + 83, 3, 17, 100, 100]])

    def test_mend_takes_no_brass(self):
        told = ask(*lit([30, 40], [5, 6]), strips(), mend(0, 0), mend(0, 0), night(), top(), strips())
        self.assertEqual(told[-6], told[-1])

    def test_a_refused_make_takes_no_brass(self):
        calls = stocked(100, (10, 0, 3)) + [brass(2), make(30)]
        told = ask(*calls, strips(), make(30), make(61), panes(0, 9), make(40), strips())
        self.assertEqual([answer[0] for answer in told[-5:-1]], [-6, -1, 9, -7])
        self.assertEqual(told[-6], told[-1])

    def test_come_out_even(self):
        calls = stocked(122, (10, 0, 99), (7, 1, 20))
        for call in (brass(3), make(30), make(27), sell(0), mend(1, 1), brass(2), make(44), sell(9), make(40),
                     sell(1), make(30), brass(8), brass(3), make(27), sell(4), make(50)):
            calls.append(call)
            told = last(*calls, strips())
            self.assertEqual(told[0], sum(told[1:4]) + sum(told[5:]))
            self.assertEqual(told[4], len(told[5:]))
            self.assertTrue(all(length >= 5 for length in told[5:]))
        self.assertGreater(min(told[1:5]), 0)


class BegunAnew(unittest.TestCase):
    def test_all_of_it_begins_anew(self):
        calls = lit([30, 40, 50], [900, 7, 8]) + [mend(0, 0), sell(1), night()]
        fresh = [begin(99, (10, 0), (5, 1)), glass(), strips(), top(), night(), sell(0), fill(2, 0), mend(0, 0),
                 panes(0, 3), brass(1), make(30), glass(), strips(), fill(0, 901), fill(0, 900), top(), sell(0),
                 glass(), strips()]
        told = ask(*calls, *fresh)[len(calls):]
        self.assertEqual(told, ask(*fresh))
        self.assertEqual(told, [[0], [0] * 6, [0] * 5, [0], [0], [-2], [-2], [-2], [3], [1],
                                [0, 3, 0, 0, 0, 0, 0, 0], [0, 3, 0, 0, 0, 0], [99, 98, 1, 0, 0], [-1], [900],
                                [1, 900], [900], [0, 0, 3, 0, 0, 0], [99, 0, 1, 98, 0]])

    def test_refused_leaves_all_of_it(self):
        calls = lit([30, 40, 50], [900, 7, 8]) + [mend(0, 0), sell(1), night()]
        told = ask(*calls, glass(), strips(), begin(19, (10, 0)), glass(), strips(), top())
        self.assertEqual(told[-6:-4], told[-3:-1])
        self.assertEqual(told[-1], [0, 882 + 8, 0])


if __name__ == "__main__":
    unittest.main()
