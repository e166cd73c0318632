import unittest

from line import ask, begin, brass, call, first, last, make, may, panes, rings, same, stocked

CLEAR = (10, 0)


class Begin(unittest.TestCase):
    def test_new_strip(self):
        for new in (20, 21, 100, 199, 200):
            self.assertEqual(last(begin(new, CLEAR)), [0], new)
        for new in (0, 1, 19, 201, 300):
            self.assertEqual(last(begin(new, CLEAR)), [-1], new)

    def test_how_many_sorts(self):
        for count in (1, 2, 3, 4):
            self.assertEqual(last(begin(100, *[CLEAR] * count)), [0], count)
        for count in (0, 5, 6):
            self.assertEqual(last(begin(100, *[CLEAR] * count)), [-1], count)

    def test_a_sort_is_two_numbers(self):
        for sort in ((), (10,), (1,), (10, 0, 0), (10, 1, 0), (10, 0, 1, 1)):
            self.assertEqual(last(begin(100, sort)), [-1], sort)
            self.assertEqual(last(begin(100, CLEAR, sort)), [-1], sort)
            self.assertEqual(last(begin(100, sort, CLEAR)), [-1], sort)

    def test_width(self):
        for width in (1, 2, 19, 20):
            self.assertEqual(last(begin(100, (width, 0))), [0], width)
            self.assertEqual(last(begin(100, CLEAR, (width, 1))), [0], width)
        for width in (0, 21, 30):
            self.assertEqual(last(begin(100, (width, 0))), [-1], width)
            self.assertEqual(last(begin(100, CLEAR, CLEAR, CLEAR, (width, 1))), [-1], width)

    def test_clear_or_painted(self):
        for second in (2, 3, 30):
            self.assertEqual(last(begin(100, (10, second))), [-1], second)
            self.assertEqual(last(begin(100, CLEAR, (10, second))), [-1], second)

    def test_refused_without_a_shop_leaves_none(self):
        self.assertEqual(ask(begin(19, CLEAR), brass(1)), [[-1], [-9]])

    def test_refused_leaves_the_shop(self):
        calls = stocked(100, (10, 0, 7), (5, 1, 3)) + [brass(5), make(30)]
        refused = (begin(19, CLEAR), begin(100), begin(100, (10, 2)), begin(100, *[CLEAR] * 5))
        for refusal in refused:
            told = ask(*calls, refusal, panes(0, 0), panes(1, 0), panes(2, 0), brass(0), make(30))
            self.assertEqual(told[-6:-1], [[-1], [4], [3], [-2], [4]])
            self.assertEqual(told[-1][0], 1)

    def test_taken_puts_a_new_shop_in_its_place(self):
        calls = stocked(100, (10, 0, 99), (5, 1, 3)) + [brass(7), make(30), make(30)]
        told = ask(*calls, begin(150, (20, 0), (20, 1), (7, 0)),
                   panes(0, 0), panes(1, 0), panes(2, 0), panes(3, 0), brass(0), make(60),
                   panes(0, 3), make(60), brass(8), make(60))
        self.assertEqual(told[-11:-5], [[0], [0], [0], [0], [-2], [0]])
        self.assertEqual(told[-5:], [[-6], [3], [-7], [8], [0, 3, 0, 0, 0, 0, 0, 1]])

    def test_taken_makes_room_for_six_lanterns_again(self):
        fresh = stocked(200, (10, 0, 99)) + [brass(8)]
        six = [make(30)] * 6
        told = ask(*fresh, *six, make(30), *fresh, *six, make(30))
        self.assertEqual([answer[0] for answer in told[3:10]], [0, 1, 2, 3, 4, 5, -5])
        self.assertEqual([answer[0] for answer in told[13:]], [0, 1, 2, 3, 4, 5, -5])

    def test_new_is_how_long_new_strips_are(self):
        # A girth of 12 wants 16 + 14 + 14 = 44.
        self.assertEqual(last(*stocked(44, (4, 0, 9)), brass(1), make(12)), [0, 3, 0, 0, 0, 0, 0, 0])
        self.assertEqual(last(*stocked(43, (4, 0, 9)), brass(1), make(12)), [-7])


class NoShop(unittest.TestCase):
    def test_every_call_but_begin(self):
        told = ask(panes(0, 1), brass(1), rings(30), first(30), may(30, [0, 0, 0]),
                   same([0, 0, 0], [0, 0, 0]), make(30))
        self.assertEqual(told, [[-9]] * 7)

    def test_ahead_of_all_other_refusals(self):
        told = ask(panes(9, 200), brass(20), rings(0), first(61), may(200, []), same([], [9]), make(2))
        self.assertEqual(told, [[-9]] * 7)

    def test_calls_of_every_number(self):
        told = ask(call(8, [0, 0]), call(9, [0, 1]), call(10), call(11), call(12, [0]),
                   call(13, [0]), call(14), call(15))
        self.assertEqual(told, [[-9]] * 8)


if __name__ == "__main__":
    unittest.main()
