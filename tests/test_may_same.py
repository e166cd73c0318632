import unittest

from line import ask, begin, last, may, panes, same, stocked

# Widths 10 and 5, of each a clear and a painted sort.
SHOP = stocked(100, (10, 0, 9), (10, 1, 9), (5, 0, 9), (5, 1, 9))


class May(unittest.TestCase):
    def test_may_be_set(self):
        for girth, ring in ((30, [0, 0, 0]), (30, [1, 0, 0]), (30, [0, 1, 0]), (40, [1, 0, 1, 0]),
                            (50, [1, 0, 0, 1, 0]), (60, [0, 1, 0, 1, 0, 1]), (25, [2, 0, 1]),
                            (35, [2, 3, 2, 3, 0, 2])):
            self.assertEqual(last(*SHOP, may(girth, ring)), [0], ring)

    def test_girths(self):
        shop = stocked(100, (1, 0, 9), (20, 0, 9))
        told = ask(*shop, may(2, [0, 0, 0]), may(3, [0, 0, 0]), may(60, [1, 1, 1]), may(61, [1, 1, 1]),
                   may(0, [0, 0, 0]), may(200, [1, 1, 1]), may(80, [1, 1, 1, 1]))
        self.assertEqual(told[3:], [[-1], [0], [0], [-1], [-1], [-1], [-1]])

    def test_how_many_panes(self):
        for count in (0, 1, 2, 7, 8, 9, 10):
            self.assertEqual(last(*SHOP, may(5 * count, [2] * count)), [-1], count)
            self.assertEqual(last(*SHOP, may(30, [2] * count)), [-1], count)
        for count in (3, 4, 5, 6):
            self.assertEqual(last(*SHOP, may(5 * count, [2] * count)), [0], count)

    def test_sorts_that_there_are_not(self):
        for ring in ([4, 0, 0], [0, 9, 0], [0, 0, 4], [0, 0, 0, 0, 0, 9]):
            self.assertEqual(last(*SHOP, may(30, ring)), [-1], ring)
        one = stocked(100, (10, 0, 9))
        self.assertEqual(last(*one, may(30, [0, 1, 0])), [-1])

    def test_widths(self):
        for girth in (3, 29, 31, 60):
            self.assertEqual(last(*SHOP, may(girth, [0, 0, 0])), [-2], girth)

    def test_painted_neighbours(self):
        for ring, place in (([1, 1, 0, 0], 0), ([0, 1, 1, 0], 1), ([0, 0, 1, 1], 2), ([1, 0, 0, 1], 3),
                            ([1, 1, 1, 1], 0), ([0, 1, 1, 1], 1), ([1, 0, 1, 1], 2), ([1, 1, 0, 1], 0)):
            self.assertEqual(last(*SHOP, may(40, ring)), [-3, place], ring)

    def test_painted_neighbours_of_two_sorts(self):
        self.assertEqual(last(*SHOP, may(25, [3, 0, 1])), [-3, 2])
        self.assertEqual(last(*SHOP, may(50, [0, 3, 1, 0, 0, 2])), [-3, 1])

    def test_last_place_of_each_length(self):
        for count in (3, 4, 5, 6):
            ring = [1] + [0] * (count - 2) + [1]
            self.assertEqual(last(*SHOP, may(10 * count, ring)), [-3, count - 1])

    def test_stock(self):
        shop = stocked(100, (10, 0, 3), (10, 1, 1), (5, 0, 1), (5, 1, 0))
        told = ask(*shop, may(30, [0, 0, 0]), may(40, [0, 0, 0, 0]), may(40, [0, 1, 0, 1]),
                   may(25, [0, 0, 3]), may(30, [2, 2, 0, 0]), may(45, [3, 0, 0, 0, 0]), may(35, [2, 0, 2, 1, 3]),
                   may(30, [3, 2, 0, 2, 2]))
        self.assertEqual(told[-8:], [[0], [-4, 0], [-4, 1], [-4, 3], [-4, 2], [-4, 0], [-3, 3], [-4, 2]])
        self.assertEqual(last(begin(100, (10, 0)), may(30, [0, 0, 0])), [-4, 0])

    def test_order_of_refusals(self):
        shop = stocked(100, (10, 0, 0), (10, 1, 0))
        self.assertEqual(last(*shop, may(61, [1, 1, 2])), [-1])
        self.assertEqual(last(*shop, may(61, [1, 1, 0])), [-1])
        self.assertEqual(last(*shop, may(31, [1, 1, 2])), [-1])
        self.assertEqual(last(*shop, may(31, [1, 1])), [-1])
        self.assertEqual(last(*shop, may(31, [1, 1, 0])), [-2])
        self.assertEqual(last(*shop, may(30, [1, 1, 0])), [-3, 0])
        self.assertEqual(last(*shop, may(30, [1, 0, 0])), [-4, 0])

    def test_changes_nothing(self):
        shop = stocked(100, (10, 0, 3))
        told = ask(*shop, may(30, [0, 0, 0]), may(30, [0, 0, 0]), panes(0, 0))
        self.assertEqual(told[-3:], [[0], [0], [3]])


class Same(unittest.TestCase):
    def test_itself(self):
        for ring in ([0, 0, 0], [0, 1, 2, 3], [3, 1, 3, 2, 0], [0, 1, 2, 3, 0, 2]):
            self.assertEqual(last(*SHOP, same(ring, ring)), [1])

    def test_turned(self):
        ring = [0, 1, 2, 3, 3, 1]
        for start in range(6):
            self.assertEqual(last(*SHOP, same(ring, ring[start:] + ring[:start])), [1], start)

    def test_turned_over(self):
        ring = [0, 1, 2, 3, 3, 1]
        over = ring[::-1]
        for start in range(6):
            self.assertEqual(last(*SHOP, same(ring, over[start:] + over[:start])), [1], start)
            self.assertEqual(last(*SHOP, same(over[start:] + over[:start], ring)), [1], start)

    def test_neither(self):
        for ring, other in (([0, 0, 1], [0, 1, 1]), ([0, 0, 0], [1, 1, 1]), ([0, 1, 2, 3], [0, 2, 1, 3]),
                            ([0, 0, 1, 1], [0, 1, 0, 1]), ([0, 1, 2, 3, 3, 1], [0, 1, 2, 3, 1, 3]),
                            ([0, 0, 1, 0, 1, 2], [0, 0, 1, 1, 0, 2])):
            self.assertEqual(last(*SHOP, same(ring, other)), [0], ring)

    def test_other_lengths(self):
        for ring, other in (([0, 0, 0], [0, 0, 0, 0]), ([0, 1, 0, 1, 0, 1], [0, 1, 0, 1]),
                            ([0, 1, 2, 0, 1, 2], [0, 1, 2])):
            self.assertEqual(last(*SHOP, same(ring, other)), [0])
            self.assertEqual(last(*SHOP, same(other, ring)), [0])

    def test_not_a_ring(self):
        for wrong in ([], [0], [0, 0], [0] * 7, [0] * 10, [0, 0, 4], [9, 0, 0], [0, 1, 4, 2]):
            self.assertEqual(last(*SHOP, same(wrong, [0, 0, 0])), [-1], wrong)
            self.assertEqual(last(*SHOP, same([0, 0, 0], wrong)), [-1], wrong)
            self.assertEqual(last(*SHOP, same(wrong, wrong)), [-1], wrong)

    def test_whether_it_may_be_set_is_not_asked(self):
        shop = begin(100, (20, 1), (20, 1))
        self.assertEqual(last(shop, same([0, 1, 1, 1, 1, 1], [1, 1, 1, 0, 1, 1])), [1])


if __name__ == "__main__":
    unittest.main()
