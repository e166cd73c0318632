import unittest

from line import ask, fill, glass, lantern, last, lit, make, night, sell, stocked, strips, top


class Top(unittest.TestCase):
    def told(self, girths, *oils):
        return last(*lit(girths, oils), top())

    def test_no_lantern(self):
        self.assertEqual(last(*stocked(200, (10, 0, 9)), top()), [0])
        self.assertEqual(last(*lit([3], [9]), sell(0), top()), [0])

    def test_no_oil(self):
        self.assertEqual(self.told([3]), [0, 0])
        self.assertEqual(self.told([3, 60, 7, 8]), [0, 0, 0, 0, 0])

    def test_one_lantern(self):
        for oil in (1, 8):
            self.assertEqual(self.told([3], oil), [0, oil])
        self.assertEqual(self.told([3], 9), [1, 9])

    def test_all_full(self):
        self.assertEqual(self.told([3, 4, 5], 9, 16, 25), [3, 9, 16, 25])
        self.assertEqual(self.told([3] * 6, 9, 9, 9, 9, 9, 9), [6, 9, 9, 9, 9, 9, 9])

    def test_all_but_one_measure(self):
        # 49: two are full at most, and 16 + 25 hold the most of two.
        self.assertEqual(self.told([3, 4, 5], 8, 16, 25), [2, 8, 16, 25])

    def test_as_many_as_can_be(self):
        # 50 fill the one of 49, or the three of 9, 16 and 25.
        self.assertEqual(self.told([7, 3, 4, 5], 49, 1), [3, 0, 9, 16, 25])
        self.assertEqual(self.told([10, 3, 3], 18), [2, 0, 9, 9])

    def test_one_measure_too_few_for_one_more(self):
        # 18 fill two of 9, 17 fill one: the one of 16.
        self.assertEqual(self.told([3, 3, 4], 0, 2, 16), [2, 9, 9, 0])
        self.assertEqual(self.told([3, 3, 4], 0, 1, 16), [1, 1, 0, 16])

    def test_of_as_many_those_that_hold_the_most(self):
        self.assertEqual(self.told([3, 5, 4], 0, 24), [1, 8, 0, 16])
        self.assertEqual(self.told([3, 5, 4], 0, 23, 1), [1, 8, 0, 16])
        # 36 fill 9 + 25, not 16 + 25; 41 fill these.
        self.assertEqual(self.told([3, 4, 5, 6], 0, 0, 0, 36), [2, 9, 2, 25, 0])
        self.assertEqual(self.told([3, 4, 5, 6], 0, 5, 0, 36), [2, 0, 16, 25, 0])

    def test_the_most_together_though_not_the_greatest(self):
        # 129 are one too few for 9 + 121 and 49 + 81, so the two that hold the most are 9 + 81.
        self.assertEqual(self.told([3, 7, 9, 11], 0, 0, 8, 121), [2, 9, 39, 81, 0])

    def test_lower_numbers_of_as_good_ones(self):
        # 49 + 81 and 9 + 121 are both 130.
        self.assertEqual(self.told([3, 7, 9, 11], 9, 0, 0, 121), [2, 9, 0, 0, 121])
        self.assertEqual(self.told([7, 3, 11, 9], 0, 9, 121), [2, 49, 0, 0, 81])
        self.assertEqual(self.told([11, 9, 7, 3], 121, 9), [2, 121, 0, 0, 9])
        self.assertEqual(self.told([9, 11, 3, 7], 0, 121, 9), [2, 81, 0, 0, 49])
        self.assertEqual(self.told([7, 9, 3, 11], 0, 9, 0, 121), [2, 49, 81, 0, 0])
        # One more is left, and too little for a third one.
        self.assertEqual(self.told([7, 3, 11, 9], 0, 9, 121, 1), [2, 49, 1, 0, 81])

    def test_first_that_differs_not_the_least_sum_of_numbers(self):
        # The numbers 0 and 5 against 1 and 2: 16 + 169 and 64 + 121 are 185.
        self.assertEqual(self.told([4, 8, 11, 60, 50, 13], 0, 64, 121), [2, 16, 0, 0, 0, 0, 169])
        self.assertEqual(self.told([8, 4, 13, 60, 50, 11], 0, 16, 169), [2, 64, 0, 0, 0, 0, 121])

    def test_lanterns_of_one_girth(self):
        self.assertEqual(self.told([5, 5, 5], 0, 0, 25), [1, 25, 0, 0])
        self.assertEqual(self.told([5, 5, 5], 10, 10, 10), [1, 25, 5, 0])
        self.assertEqual(self.told([5, 5, 5], 20, 20, 20), [2, 25, 25, 10])
        self.assertEqual(self.told([6, 5, 6, 5, 6], 0, 0, 36, 0, 36), [2, 36, 0, 36, 0, 0])

    def test_what_is_left_goes_into_the_first_of_the_others(self):
        self.assertEqual(self.told([9, 3, 10, 11], 5, 9, 7, 1), [1, 13, 9, 0, 0])
        self.assertEqual(self.told([3, 9, 10, 11], 9, 5, 7, 1), [1, 9, 13, 0, 0])
        self.assertEqual(self.told([11, 12, 13], 40, 40, 40), [0, 120, 0, 0])
        self.assertEqual(self.told([11, 12, 13], 0, 0, 8), [0, 8, 0, 0])
        # The first of the others has all but one measure that it holds.
        self.assertEqual(self.told([3, 3, 60], 9, 8, 0), [1, 9, 8, 0])

    def test_six_lanterns(self):
        girths = [20, 30, 40, 50, 60, 10]
        # 5500 in all: 100 + 400 + 900 + 1600 + 2500 are just that.
        self.assertEqual(self.told(girths, 0, 0, 0, 2500, 3000), [5, 400, 900, 1600, 2500, 0, 100])
        # One less: of four the most is all but the 100, and 99 are left.
        self.assertEqual(self.told(girths, 0, 0, 0, 2500, 2999), [4, 400, 900, 1600, 2500, 99, 0])

    def test_each_lantern_has_it_then(self):
        told = ask(*lit([7, 3, 11, 9], [0, 9, 121, 1]), top(), *[lantern(number) for number in range(4)])
        self.assertEqual(told[-5], [2, 49, 1, 0, 81])
        self.assertEqual([answer[1] for answer in told[-4:]], [49, 1, 0, 81])

    def test_again_is_the_same(self):
        told = ask(*lit([7, 3, 11, 9], [0, 9, 121, 1]), top(), top())
        self.assertEqual(told[-1], told[-2])

    def test_behind_night_and_fill(self):
        told = ask(*lit([3, 10, 4], [9, 100, 0]), night(), top(), fill(0, 9), top())
        self.assertEqual(told[-4:], [[2], [2, 9, 98 - 16, 16], [-1], [2, 9, 82, 16]])

    def test_by_the_numbers_of_those_that_stand(self):
        told = ask(*lit([3, 4, 5], [0, 0, 25]), sell(1), make(6), top(), lantern(0), lantern(2), lantern(3))
        self.assertEqual(told[-4], [1, 0, 25, 0])
        self.assertEqual([answer[1] for answer in told[-3:]], [0, 25, 0])

    def test_oil_of_a_lantern_that_was_sold_is_gone(self):
        self.assertEqual(last(*lit([3, 4, 5], [9, 16, 1]), sell(1), top()), [1, 9, 1])

    def test_glass_and_brass_stay(self):
        told = ask(*lit([7, 3, 11, 9], [0, 9, 121, 1]), glass(), strips(), top(), glass(), strips())
        self.assertEqual(told[-5:-3], told[-2:])


if __name__ == "__main__":
    unittest.main()
