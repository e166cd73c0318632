import unittest

from line import ask, brass, fill, glass, lantern, last, left_as_it_was, make, mend, panes, sell, stocked


def with_lantern(girth, *sorts):
    return stocked(200, *sorts) + [brass(2), make(girth)]


class Mend(unittest.TestCase):
    def test_pane_of_the_same_sort(self):
        told = ask(*with_lantern(30, (10, 0, 4)), mend(0, 1), lantern(0), glass(), panes(0, 0))
        self.assertEqual(told[-4:], [[0], [30, 0, 3, 0, 0, 0], [0, 3, 1], [0]])

    def test_pane_of_another_sort(self):
        told = ask(*with_lantern(30, (10, 0, 3), (10, 0, 5)), mend(0, 1), lantern(0), glass())
        self.assertEqual(told[-3:], [[1], [30, 0, 3, 0, 1, 0], [0, 2, 1, 4, 1, 0]])

    def test_lowest_sort(self):
        calls = with_lantern(30, (10, 0, 0), (10, 0, 0), (10, 0, 9), (10, 0, 9))
        self.assertEqual(last(*calls, mend(0, 0)), [2])
        self.assertEqual(last(*calls, panes(1, 1), mend(0, 0)), [1])
        told = ask(*calls, panes(1, 1), panes(0, 1), mend(0, 0), mend(0, 1), mend(0, 2), lantern(0))
        self.assertEqual(told[-4:], [[0], [1], [2], [30, 0, 3, 0, 1, 2]])

    def test_lower_sort_than_the_broken_pane(self):
        calls = with_lantern(30, (10, 0, 0), (10, 0, 9))
        told = ask(*calls, panes(0, 1), mend(0, 2), mend(0, 2), lantern(0), glass())
        self.assertEqual(told[-4:], [[0], [1], [30, 0, 3, 1, 1, 1], [0, 0, 1, 5, 3, 1]])

    def test_none_in_stock(self):
        calls = with_lantern(30, (10, 0, 3), (10, 0, 0))
        self.assertEqual(last(*calls, mend(0, 0)), [-6])
        self.assertEqual(last(*calls, panes(1, 1), mend(0, 0)), [1])

    def test_last_of_the_stock(self):
        told = ask(*with_lantern(30, (10, 0, 4)), mend(0, 0), mend(0, 0), panes(0, 1), mend(0, 0))
        self.assertEqual(told[-4:], [[0], [-6], [1], [0]])

    def test_broken_pane_does_not_come_back(self):
        # The panes that break are of sort 0, and none of them may be set again.
        told = ask(*with_lantern(30, (10, 0, 3), (10, 0, 2)), mend(0, 0), mend(0, 1), mend(0, 0), glass())
        self.assertEqual(told[-4:], [[1], [1], [-6], [0, 1, 2, 0, 2, 0]])

    def test_other_widths(self):
        for width in (9, 11):
            calls = with_lantern(30, (width, 0, 9), (10, 0, 3))
            self.assertEqual(last(*calls, mend(0, 0)), [-6], width)
            calls = with_lantern(30, (10, 0, 3), (width, 0, 9))
            self.assertEqual(last(*calls, mend(0, 0)), [-6], width)

    def test_width_of_the_pane_at_that_place(self):
        # 0, 0, 1 are 10, 10, 5 wide.
        calls = with_lantern(25, (10, 0, 2), (5, 0, 1), (5, 0, 1), (10, 0, 1))
        self.assertEqual(ask(*calls, mend(0, 2), mend(0, 1), lantern(0))[-3:], [[2], [3], [25, 0, 3, 0, 3, 2]])

    def test_only_that_lantern(self):
        calls = with_lantern(30, (10, 0, 6), (10, 0, 1)) + [make(30)]
        told = ask(*calls, mend(1, 0), lantern(0), lantern(1))
        self.assertEqual(told[-3:], [[1], [30, 0, 3, 0, 0, 0], [30, 0, 3, 1, 0, 0]])

    def test_oil_stays(self):
        self.assertEqual(last(*with_lantern(30, (10, 0, 4)), fill(0, 77), mend(0, 1), lantern(0)),
                         [30, 77, 3, 0, 0, 0])


class PaintedNeighbours(unittest.TestCase):
    def test_painted_pane_at_each_place(self):
        # The ring is 0, 1, 1 with 0 painted.
        calls = with_lantern(30, (10, 1, 5), (10, 0, 9))
        self.assertEqual(last(*calls, lantern(0)), [30, 0, 3, 0, 1, 1])
        self.assertEqual(last(*calls, mend(0, 0)), [0])
        self.assertEqual(last(*calls, mend(0, 1)), [1])
        self.assertEqual(last(*calls, mend(0, 2)), [1])

    def test_first_pane_beside_a_painted_last_one(self):
        # The ring is 0, 0, 1 with 1 painted, and no clear pane is left.
        calls = with_lantern(30, (10, 0, 2), (10, 1, 9))
        self.assertEqual(last(*calls, lantern(0)), [30, 0, 3, 0, 0, 1])
        self.assertEqual(last(*calls, mend(0, 0)), [-6])
        self.assertEqual(last(*calls, mend(0, 1)), [-6])
        self.assertEqual(last(*calls, mend(0, 2)), [1])

    def test_last_pane_beside_a_painted_first_one(self):
        # The ring is 0, 1, 1, 1 with 0 painted, and no clear pane is left.
        calls = with_lantern(40, (10, 1, 1), (10, 0, 3)) + [panes(0, 9)]
        self.assertEqual(last(*calls, lantern(0)), [40, 0, 4, 0, 1, 1, 1])
        self.assertEqual(last(*calls, mend(0, 1)), [-6])
        self.assertEqual(last(*calls, mend(0, 3)), [-6])
        self.assertEqual(ask(*calls, mend(0, 2), lantern(0))[-2:], [[0], [40, 0, 4, 0, 1, 0, 1]])

    def test_last_and_first_place_of_each_length(self):
        for count in (3, 4, 5, 6):
            # Sort 0 is painted and stands at place 0 alone.
            calls = with_lantern(10 * count, (10, 1, 1), (10, 0, count - 1)) + [panes(0, 9)]
            self.assertEqual(last(*calls, mend(0, count - 1)), [-6], count)
            # Sort 1 is painted and stands at the last place alone.
            calls = with_lantern(10 * count, (10, 0, count - 1), (10, 1, 1)) + [panes(1, 9)]
            self.assertEqual(last(*calls, mend(0, 0)), [-6], count)

    def test_neighbours_of_another_width(self):
        # The ring is 0, 0, 1: 10, 10, 5 wide, and the last one is painted.
        calls = with_lantern(25, (10, 0, 2), (5, 1, 1), (10, 1, 9), (10, 0, 9))
        self.assertEqual(last(*calls, lantern(0)), [25, 0, 3, 0, 0, 1])
        self.assertEqual(last(*calls, mend(0, 0)), [3])

    def test_painted_for_painted(self):
        calls = with_lantern(30, (10, 0, 2), (10, 1, 1), (10, 1, 1))
        self.assertEqual(ask(*calls, mend(0, 2), lantern(0))[-2:], [[2], [30, 0, 3, 0, 0, 2]])

    def test_clear_for_painted_then_painted_beside_it(self):
        calls = with_lantern(30, (10, 0, 2), (10, 1, 1)) + [panes(0, 1), panes(1, 2)]
        told = ask(*calls, mend(0, 2), mend(0, 0), mend(0, 1), lantern(0))
        self.assertEqual(told[-4:], [[0], [1], [-6], [30, 0, 3, 1, 0, 0]])


class Refusals(unittest.TestCase):
    CALLS = with_lantern(30, (10, 0, 3), (9, 0, 9))

    def test_no_such_lantern(self):
        for number in (1, 2, 100):
            self.assertEqual(left_as_it_was(self.CALLS + [panes(0, 9)], mend(number, 0)), ([-2], True), number)
        self.assertEqual(last(*stocked(200, (10, 0, 9)), mend(0, 0)), [-2])

    def test_lantern_that_was_sold(self):
        self.assertEqual(left_as_it_was(self.CALLS + [panes(0, 9), sell(0)], mend(0, 0)), ([-2], True))

    def test_no_such_place(self):
        for count in (3, 4, 5, 6):
            calls = with_lantern(10 * count, (10, 0, 99))
            self.assertEqual(last(*calls, mend(0, count - 1)), [0], count)
            for place in range(count, 10):
                self.assertEqual(left_as_it_was(calls, mend(0, place)), ([-1], True), (count, place))

    def test_no_sort_does(self):
        self.assertEqual(left_as_it_was(self.CALLS, mend(0, 0)), ([-6], True))

    def test_order(self):
        # Nothing is in stock that does, so -6 would be right but for the others.
        self.assertEqual(last(*self.CALLS, mend(1, 3)), [-2])
        self.assertEqual(last(*self.CALLS, mend(1, 0)), [-2])
        self.assertEqual(last(*self.CALLS, mend(0, 3)), [-1])
        self.assertEqual(last(*self.CALLS, mend(0, 2)), [-6])


if __name__ == "__main__":
    unittest.main()
