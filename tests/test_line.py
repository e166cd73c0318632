import unittest

from lampring.bench import answers

LINE = [
    2, 1, 1, 0,
    0, 1, 19, 1, 2, 10, 0,
    0, 1, 103, 2, 2, 10, 0, 2, 5, 1,
    1, 2, 0, 9, 0,
    1, 2, 2, 9, 0,
    1, 2, 1, 4, 0,
    2, 1, 2, 0,
    3, 1, 30, 0,
    4, 1, 25, 0,
    4, 1, 33, 0,
    5, 1, 30, 1, 4, 0, 1, 0, 1,
    5, 1, 30, 1, 4, 1, 0, 0, 1,
    5, 1, 50, 1, 5, 0, 0, 0, 0, 0,
    5, 1, 30, 1, 0,
    6, 0, 2, 3, 0, 0, 1, 3, 1, 0, 0,
    6, 0, 2, 0, 10, 0, 1, 2, 3, 4, 5, 6, 7, 8, 9,
    7, 1, 25, 0,
    7, 1, 61, 0,
    13, 1, 0, 0,
    8, 2, 0, 2, 0,
    8, 2, 0, 3, 0,
    8, 2, 1, 3, 0,
    9, 2, 0, 626, 0,
    9, 2, 0, 620, 0,
    10, 0, 0,
    11, 0, 0,
    13, 1, 0, 0,
    14, 0, 0,
    15, 0, 0,
    12, 1, 0, 0,
    12, 1, 0, 0,
    11, 0, 0,
    14, 0, 0,
    15, 0, 0,
    5, 1, 60, 1, 6, 0, 0, 0, 0, 0, 0,
    5, 1, 40, 1, 4, 0, 0, 0, 0,
    0, 1, 20, 0,
    0, 1, 20, 1, 2, 1, 1,
    2, 1, 0, 0,
]

ANSWERS = [
    1, -9,
    1, -1,
    1, 0,
    1, 9,
    1, -2,
    1, 4,
    1, 2,
    4, 1, 1, 0, 0,
    4, 3, 0, 0, 1,
    1, -6,
    1, 0,
    2, -3, 3,
    1, 0,
    1, -1,
    1, 1,
    1, -1,
    8, 0, 3, 0, 0, 1, 0, 0, 0,
    1, -1,
    6, 25, 0, 3, 0, 0, 1,
    1, 1,
    1, -1,
    1, -2,
    1, -1,
    1, 620,
    1, 13,
    2, 0, 607,
    6, 25, 607, 3, 0, 0, 1,
    6, 7, 2, 0, 2, 1, 1,
    7, 206, 83, 0, 0, 2, 20, 103,
    1, 607,
    1, -2,
    1, 0,
    6, 7, 0, 2, 2, 0, 2,
    7, 206, 0, 0, 83, 2, 20, 103,
    1, 0,
    1, 0,
    1, -1,
    1, 0,
    1, 0,
]


class Line(unittest.TestCase):
    def test_counts_before_answers(self):
        self.assertEqual(answers(list(LINE)), ANSWERS)

    def test_sort_behind_a_refusal(self):
        self.assertEqual(answers([0, 1, 50, 1, 2, 9, 0, 1, 2, 0, 2, 0, 5, 1, 27, 1, 3, 0, 0, 0]),
                         [1, 0, 1, 2, 2, -4, 0])

    def test_sorts_of_other_lengths(self):
        line = [0, 1, 50, 3, 2, 9, 0, 0, 4, 9, 1, 9, 1,
                0, 1, 50, 6, 0, 1, 5, 2, 5, 1, 3, 5, 1, 1, 4, 5, 5, 5, 5, 0,
                0, 1, 50, 2, 2, 9, 0, 2, 9, 1, 2, 1, 0, 0]
        self.assertEqual(answers(line), [1, -1, 1, -1, 1, 0, 1, 0])

    def test_what_is_handed_in_stays(self):
        line = list(LINE)
        answers(line)
        self.assertEqual(line, LINE)

    def test_nothing_is_kept(self):
        self.assertEqual(answers(list(LINE)), answers(list(LINE)))
        answers([0, 1, 100, 1, 2, 10, 0])
        self.assertEqual(answers([2, 1, 1, 0]), [1, -9])

    def test_whole_numbers(self):
        given = answers(list(LINE))
        self.assertIs(type(given), list)
        self.assertEqual({type(number) for number in given}, {int})

    def test_sixty_calls_on_lanterns(self):
        begin = [0, 1, 200, 4] + [2, 20, 0] * 4
        stock = sum([[1, 2, sort, 99, 0] for sort in range(4)], [2, 1, 8, 0])
        six = [7, 1, 60, 0] * 6
        oil = sum([[9, 2, number, 3600, 0] for number in range(6)], [])
        told = [10, 0, 0, 11, 0, 0, 14, 0, 0, 15, 0, 0]
        line = begin + stock + six + oil + told * 10 + [12, 1, 5, 0, 7, 1, 60, 0]
        asked = [1, 0, 1, 8] + [1, 99] * 4
        for number in range(6):
            asked += [8, number, 3, 0, 0, 0] + [number] * 3
        asked += [1, 3600] * 6
        left = 3600
        for nights in range(10):
            burnt = 5 * 72 + left // 50
            left -= burnt
            # In the tenth night what's left doesn't do for five full ones.
            topped = [5] + [3600] * 5 + [left] if left >= 0 else [4] + [3600] * 4 + [3600 + left, 0]
            asked += [1, burnt, 7] + topped
            asked += [12, 81, 18, 0, 99, 0, 0, 99, 0, 0, 99, 0, 0]
            asked += [13, 1600, 1128, 0, 0, 8] + [12] * 6 + [200] * 2
        asked += [1, 0, 8, 6, 3, 0, 0, 0, 6, 6, 6]
        self.assertEqual(answers(line), asked)

    def test_sixty_calls_on_rings(self):
        line = [0, 1, 200, 4] + [2, 10, 0] * 4
        for sort in range(4):
            line += [1, 2, sort, 99, 0]
        line += [3, 1, 60, 0] * 55
        self.assertEqual(answers(line), [1, 0] + [1, 99] * 4 + [4, 0, 0, 0, 430] * 55)


if __name__ == "__main__":
    unittest.main()
