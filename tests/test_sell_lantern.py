import unittest

from line import (ask, brass, fill, glass, lantern, last, left_as_it_was, lit, make, mend, night, panes, sell,
                  stocked, strips, top)


class Sell(unittest.TestCase):
    def test_answers_how_much_it_has(self):
        self.assertEqual(last(*lit([30]), sell(0)), [0])
        self.assertEqual(last(*lit([30, 40], [900, 77]), sell(1)), [77])
        self.assertEqual(last(*lit([30, 40], [900, 77]), sell(0)), [900])
        self.assertEqual(last(*lit([30], [100]), night(), sell(0)), [98])

    def test_gone(self):
        calls = lit([30, 40], [900, 77]) + [sell(0)]
        for call in (sell(0), lantern(0), fill(0, 0), fill(0, 5000), mend(0, 0), mend(0, 9)):
            self.assertEqual(left_as_it_was(calls, call), ([-2], True))

    def test_others_stay(self):
        told = ask(*lit([30, 40, 50], [1, 2, 3]), lantern(0), lantern(2), sell(1), lantern(0), lantern(2))
        self.assertEqual(told[-5:-3], told[-2:])
        self.assertEqual(told[-3], [2])

    def test_no_such_lantern(self):
        for number in (1, 2, 100):
            self.assertEqual(left_as_it_was(lit([30], [5]), sell(number)), ([-2], True), number)
        self.assertEqual(last(*stocked(200, (10, 0, 9)), sell(0)), [-2])

    def test_number_is_not_used_again(self):
        told = ask(*lit([30]), sell(0), brass(1), make(30), sell(0), sell(1), make(30), lantern(1))
        self.assertEqual([answer[0] for answer in told[-5:]], [1, -2, 0, 2, -2])

    def test_number_in_the_middle_is_not_used_again(self):
        told = ask(*lit([3, 4, 5]), sell(1), make(6), lantern(1), lantern(3))
        self.assertEqual([answer[0] for answer in told[-3:]], [3, -2, 6])

    def test_another_may_be_made_where_six_stood(self):
        told = ask(*lit([3] * 6), make(3), sell(2), make(3), make(3), sell(0), sell(6), make(3), make(3), make(3))
        self.assertEqual([answer[0] for answer in told[-9:]], [-5, 0, 6, -5, 0, 0, 7, 8, -5])

    def test_panes_and_strips_do_not_come_back(self):
        told = ask(*lit([30], [], ((10, 0, 8),)), panes(0, 0), brass(0), sell(0), panes(0, 0), brass(0))
        self.assertEqual(told[-5:], [[5], [1], [0], [5], [1]])


class TellLantern(unittest.TestCase):
    def test_once_made(self):
        for girth, ring in ((3, [0, 0, 0]), (15, [0, 0, 0, 1, 1]), (25, [0, 1, 2]), (30, [1, 1, 2])):
            calls = stocked(200, (1, 0, 3), (6, 0, 6), (18, 0, 1)) + [brass(1), make(girth)]
            self.assertEqual(last(*calls, lantern(0)), [girth, 0, len(ring)] + ring)

    def test_ring_and_girth_are_those_of_make(self):
        for girth in range(3, 61):
            told = ask(*lit([girth]), lantern(0))
            if told[-2][0] == 0:
                self.assertEqual(told[-1], [girth, 0] + told[-2][1:-3], girth)

    def test_once_mended(self):
        calls = stocked(200, (10, 0, 4), (10, 1, 1)) + [brass(1), make(40)]
        told = ask(*calls, lantern(0), mend(0, 2), lantern(0))
        self.assertEqual(told[-3:], [[40, 0, 4, 0, 0, 0, 0], [1], [40, 0, 4, 0, 0, 1, 0]])

    def test_once_filled(self):
        told = ask(*lit([3]), fill(0, 5), lantern(0), fill(0, 4), lantern(0), fill(0, 1), lantern(0))
        self.assertEqual(told[-5:], [[3, 5, 3, 0, 0, 0], [9], [3, 9, 3, 0, 0, 0], [-1], [3, 9, 3, 0, 0, 0]])

    def test_once_a_night_is_over(self):
        self.assertEqual(last(*lit([11], [121]), night(), lantern(0)), [11, 119, 3, 0, 2, 2])

    def test_once_topped(self):
        told = ask(*lit([11, 3], [8, 9]), fill(0, 3), top(), lantern(0), lantern(1))
        self.assertEqual(told[-3:], [[1, 11, 9], [11, 11, 3, 0, 2, 2], [3, 9, 3, 0, 0, 0]])
        told = ask(*lit([11, 3], [9]), top(), lantern(0), lantern(1))
        self.assertEqual(told[-3:], [[1, 0, 9], [11, 0, 3, 0, 2, 2], [3, 9, 3, 0, 0, 0]])

    def test_no_such_lantern(self):
        for number in (1, 2, 100):
            self.assertEqual(last(*lit([30]), lantern(number)), [-2], number)
        self.assertEqual(last(*stocked(200, (10, 0, 9)), lantern(0)), [-2])
        self.assertEqual(last(*lit([30]), sell(0), lantern(0)), [-2])

    def test_changes_nothing(self):
        told = ask(*lit([30, 40], [5, 6]), glass(), strips(), lantern(0), lantern(0), lantern(9), glass(), strips())
        self.assertEqual(told[-7:-5], told[-2:])
        self.assertEqual(told[-5], told[-4])


if __name__ == "__main__":
    unittest.main()
