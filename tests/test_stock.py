import unittest

from line import ask, begin, brass, last, make, panes, stocked

SHOP = begin(100, (10, 0), (5, 1))


class Panes(unittest.TestCase):
    def test_so_many_more(self):
        told = ask(SHOP, panes(0, 3), panes(1, 4), panes(0, 5), panes(1, 0), panes(0, 0))
        self.assertEqual(told, [[0], [3], [4], [8], [4], [8]])

    def test_none_at_first(self):
        self.assertEqual(ask(SHOP, panes(0, 0), panes(1, 0)), [[0], [0], [0]])

    def test_just_99_and_one_more(self):
        told = ask(SHOP, panes(0, 99), panes(0, 1), panes(0, 0), panes(1, 100), panes(1, 0),
                   panes(1, 98), panes(1, 2), panes(1, 1), panes(1, 1))
        self.assertEqual(told, [[0], [99], [-1], [99], [-1], [0], [98], [-1], [99], [-1]])

    def test_no_such_sort(self):
        told = ask(SHOP, panes(2, 1), panes(9, 0), panes(0, 0), panes(1, 0))
        self.assertEqual(told, [[0], [-2], [-2], [0], [0]])
        four = begin(100, *[(10, 0)] * 4)
        self.assertEqual(ask(four, panes(3, 1), panes(4, 1)), [[0], [1], [-2]])

    def test_no_such_sort_comes_before_too_many(self):
        self.assertEqual(last(SHOP, panes(2, 200)), [-2])
        self.assertEqual(last(SHOP, panes(2, 100)), [-2])

    def test_room_again_once_panes_are_used(self):
        told = ask(*stocked(100, (10, 0, 99)), brass(1), make(30), panes(0, 4), panes(0, 3))
        self.assertEqual(told[-2:], [[-1], [99]])


class Brass(unittest.TestCase):
    def test_so_many_more(self):
        told = ask(SHOP, brass(0), brass(1), brass(3), brass(0))
        self.assertEqual(told, [[0], [0], [1], [4], [4]])

    def test_just_8_and_one_more(self):
        told = ask(SHOP, brass(9), brass(0), brass(20), brass(8), brass(1), brass(0))
        self.assertEqual(told, [[0], [-1], [0], [-1], [8], [-1], [8]])
        told = ask(SHOP, brass(7), brass(2), brass(0), brass(1), brass(1))
        self.assertEqual(told, [[0], [7], [-1], [7], [8], [-1]])

    def test_new_strips_come_behind_the_others(self):
        # 200 - 44 = 156 is left at place 0; the strip that came last is at place 1.
        told = ask(*stocked(200, (4, 0, 9), (20, 0, 9)), brass(1), make(12), brass(1), make(60))
        self.assertEqual(told[-1], [1, 3, 1, 1, 1, 1, 1, 1])


if __name__ == "__main__":
    unittest.main()
