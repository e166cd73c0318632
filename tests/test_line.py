import unittest

from lampring.bench import answers

LINE = [
    2, 1, 1, 0,
    0, 1, 19, 1, 2, 10, 0,
    0, 1, 103, 2, 2, 10, 0, 2, 5, 1,
    1, 2, 0, 9, 0,
    1, 2, 2, 9, 0,
    1, 2, 1, 4, 0,
    2, 1, 2, 0,
    3, 1, 30, 0,
    4, 1, 25, 0,
    4, 1, 33, 0,
    5, 1, 30, 1, 4, 0, 1, 0, 1,
    5, 1, 30, 1, 4, 1, 0, 0, 1,
    5, 1, 50, 1, 5, 0, 0, 0, 0, 0,
    5, 1, 30, 1, 0,
    6, 0, 2, 3, 0, 0, 1, 3, 1, 0, 0,
    6, 0, 2, 0, 10, 0, 1, 2, 3, 4, 5, 6, 7, 8, 9,
    7, 1, 25, 0,
    7, 1, 61, 0,
    5, 1, 60, 1, 6, 0, 0, 0, 0, 0, 0,
    5, 1, 40, 1, 4, 0, 0, 0, 0,
    0, 1, 20, 0,
    0, 1, 20, 1, 2, 1, 1,
    2, 1, 0, 0,
]

ANSWERS = [
    1, -9,
    1, -1,
    1, 0,
    1, 9,
    1, -2,
    1, 4,
    1, 2,
    4, 1, 1, 0, 0,
    4, 3, 0, 0, 1,
    1, -6,
    1, 0,
    2, -3, 3,
    1, 0,
    1, -1,
    1, 1,
    1, -1,
    8, 0, 3, 0, 0, 1, 0, 0, 0,
    1, -1,
    1, 0,
    1, 0,
    1, -1,
    1, 0,
    1, 0,
]


class Line(unittest.TestCase):
    def test_counts_before_answers(self):
        self.assertEqual(answers(list(LINE)), ANSWERS)

    def test_sort_behind_a_refusal(self):
        self.assertEqual(answers([0, 1, 50, 1, 2, 9, 0, 1, 2, 0, 2, 0, 5, 1, 27, 1, 3, 0, 0, 0]),
                         [1, 0, 1, 2, 2, -4, 0])

    def test_sorts_of_other_lengths(self):
        line = [0, 1, 50, 3, 2, 9, 0, 0, 4, 9, 1, 9, 1,
                0, 1, 50, 6, 0, 1, 5, 2, 5, 1, 3, 5, 1, 1, 4, 5, 5, 5, 5, 0,
                0, 1, 50, 2, 2, 9, 0, 2, 9, 1, 2, 1, 0, 0]
        self.assertEqual(answers(line), [1, -1, 1, -1, 1, 0, 1, 0])

    def test_what_is_handed_in_stays(self):
        line = list(LINE)
        answers(line)
        self.assertEqual(line, LINE)

    def test_nothing_is_kept(self):
        self.assertEqual(answers(list(LINE)), answers(list(LINE)))
        answers([0, 1, 100, 1, 2, 10, 0])
        self.assertEqual(answers([2, 1, 1, 0]), [1, -9])

    def test_whole_numbers(self):
        given = answers(list(LINE))
        self.assertIs(type(given), list)
        self.assertEqual({type(number) for number in given}, {int})

    def test_sixty_calls(self):
        line = [0, 1, 200, 4] + [2, 10, 0] * 4
        for sort in range(4):
            line += [1, 2, sort, 99, 0]
        line += [3, 1, 60, 0] * 55
        self.assertEqual(answers(line), [1, 0] + [1, 99] * 4 + [4, 0, 0, 0, 430] * 55)


if __name__ == "__main__":
    unittest.main()
