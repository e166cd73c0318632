import unittest

from line import ask, begin, first, last, panes, rings, stocked


def counts(*sorts):
    """How many rings of 3, 4, 5, 6 panes, all 10 wide, each asked at its own girth."""
    return [last(*stocked(100, *sorts), rings(10 * n))[n - 3] for n in (3, 4, 5, 6)]


class Rings(unittest.TestCase):
    def test_girths(self):
        shop = stocked(100, (1, 0, 9), (20, 0, 9))
        self.assertEqual(last(*shop, rings(3)), [1, 0, 0, 0])
        self.assertEqual(last(*shop, rings(60)), [1, 0, 0, 0])
        for girth in (0, 1, 2, 61, 62, 200):
            self.assertEqual(last(*shop, rings(girth)), [-1], girth)

    def test_one_sort(self):
        shop = stocked(100, (10, 0, 9))
        told = ask(*shop, rings(30), rings(40), rings(50), rings(60), rings(20), rings(35))
        self.assertEqual(told[2:], [[1, 0, 0, 0], [0, 1, 0, 0], [0, 0, 1, 0], [0, 0, 0, 1],
                                    [0, 0, 0, 0], [0, 0, 0, 0]])

    def test_rings_that_are_the_same_are_one(self):
        # These are how many bracelets there are of 3 to 6 beads in 2, 3, 4 colours.
        self.assertEqual(counts(*[(10, 0, 99)] * 2), [4, 6, 8, 13])
        self.assertEqual(counts(*[(10, 0, 99)] * 3), [10, 21, 39, 92])
        self.assertEqual(counts(*[(10, 0, 99)] * 4), [20, 55, 136, 430])

    def test_painted_neighbours(self):
        self.assertEqual(counts((10, 0, 99), (10, 1, 99)), [2, 3, 3, 5])
        self.assertEqual(counts((10, 1, 99), (10, 0, 99)), [2, 3, 3, 5])
        self.assertEqual(counts((10, 1, 99)), [0, 0, 0, 0])
        self.assertEqual(counts((10, 1, 99), (10, 1, 99)), [0, 0, 0, 0])

    def test_painted_last_and_first_pane(self):
        # One clear pane among three parts two painted ones on one side alone.
        self.assertEqual(last(*stocked(100, (10, 1, 99), (5, 0, 1)), rings(25)), [0, 0, 0, 0])
        # So do two clear ones among five.
        self.assertEqual(last(*stocked(100, (10, 1, 99), (7, 0, 2)), rings(44)), [0, 0, 0, 0])

    def test_stock(self):
        self.assertEqual(counts((10, 0, 2), (10, 0, 2)), [2, 2, 0, 0])
        self.assertEqual(counts((10, 0, 3), (10, 0, 0)), [1, 0, 0, 0])
        self.assertEqual(counts((10, 0, 3), (10, 0, 1)), [2, 1, 0, 0])
        self.assertEqual(counts((10, 0, 0)), [0, 0, 0, 0])

    def test_several_lengths_at_one_girth(self):
        # 555555; 5555 and a 10; 55 and two 10, side by side or not; three 10.
        self.assertEqual(last(*stocked(100, (5, 0, 99), (10, 0, 99)), rings(30)), [1, 2, 1, 1])


class First(unittest.TestCase):
    def test_girths(self):
        shop = stocked(100, (1, 0, 9), (20, 0, 9))
        self.assertEqual(last(*shop, first(3)), [3, 0, 0, 0])
        self.assertEqual(last(*shop, first(60)), [3, 1, 1, 1])
        for girth in (0, 2, 61, 200):
            self.assertEqual(last(*shop, first(girth)), [-1], girth)

    def test_none_may_be_set(self):
        self.assertEqual(last(*stocked(100, (10, 0, 9)), first(31)), [-6])
        self.assertEqual(last(*stocked(100, (10, 0, 2)), first(30)), [-6])
        self.assertEqual(last(*stocked(100, (10, 1, 9)), first(30)), [-6])
        self.assertEqual(last(*stocked(100, (5, 0, 9)), first(35)), [-6])
        self.assertEqual(last(begin(100, (10, 0)), first(30)), [-6])

    def test_fewest_panes(self):
        self.assertEqual(last(*stocked(100, (5, 0, 9), (10, 0, 9)), first(30)), [3, 1, 1, 1])
        self.assertEqual(last(*stocked(100, (5, 0, 9), (10, 0, 2)), first(30)), [4, 0, 0, 1, 1])
        self.assertEqual(last(*stocked(100, (5, 0, 9), (10, 0, 1)), first(30)), [5, 0, 0, 0, 0, 1])
        self.assertEqual(last(*stocked(100, (5, 0, 9), (10, 0, 0)), first(30)), [6, 0, 0, 0, 0, 0, 0])

    def test_first_of_all_spellings(self):
        self.assertEqual(last(*stocked(100, (10, 0, 9), (5, 0, 9)), first(25)), [3, 0, 0, 1])
        self.assertEqual(last(*stocked(100, (5, 0, 9), (10, 0, 9)), first(25)), [3, 0, 1, 1])
        told = last(*stocked(100, (7, 0, 1), (11, 0, 1), (13, 0, 1), (17, 0, 1)), first(48))
        self.assertEqual(told, [4, 0, 1, 2, 3])

    def test_first_of_several_rings(self):
        # 0 and 3 are 8 + 12, 1 and 2 are 9 + 11: 0, 2, 1 and 0, 0, 3 are both of girth 28.
        sorts = ((8, 0, 9), (9, 0, 9), (11, 0, 9), (12, 0, 9))
        self.assertEqual(last(*stocked(100, *sorts), first(28)), [3, 0, 0, 3])
        short = ((8, 0, 1),) + sorts[1:]
        self.assertEqual(last(*stocked(100, *short), first(28)), [3, 0, 1, 2])

    def test_painted(self):
        self.assertEqual(last(*stocked(100, (5, 0, 9), (10, 1, 9)), first(30)), [4, 0, 1, 0, 1])
        self.assertEqual(last(*stocked(100, (10, 1, 1), (10, 0, 9)), first(30)), [3, 0, 1, 1])

    def test_changes_nothing(self):
        shop = stocked(100, (10, 0, 3))
        told = ask(*shop, first(30), rings(30), first(30), panes(0, 0))
        self.assertEqual(told[-4:], [[3, 0, 0, 0], [1, 0, 0, 0], [3, 0, 0, 0], [3]])


if __name__ == "__main__":
    unittest.main()
