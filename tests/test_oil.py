import unittest

from line import ask, fill, lantern, last, left_as_it_was, lit, mend, night, panes, sell, stocked

CLEAR = ((10, 0, 99),)


def has(told):
    """How much a lantern has, out of what lantern tells of it."""
    return told[1]


class Fill(unittest.TestCase):
    def test_so_much_more(self):
        told = ask(*lit([30]), fill(0, 100), fill(0, 0), fill(0, 23), lantern(0))
        self.assertEqual(told[-4:-1], [[100], [100], [123]])
        self.assertEqual(has(told[-1]), 123)

    def test_just_full_and_one_measure_more(self):
        for girth in (3, 7, 30, 60):
            full = girth * girth
            told = ask(*lit([girth]), fill(0, full + 1), fill(0, full), fill(0, 1), fill(0, 0))
            self.assertEqual(told[-4:], [[-1], [full], [-1], [full]], girth)
            told = ask(*lit([girth]), fill(0, full - 1), fill(0, 2), fill(0, 1))
            self.assertEqual(told[-3:], [[full - 1], [-1], [full]], girth)

    def test_only_that_lantern(self):
        told = ask(*lit([30, 40]), fill(1, 1600), lantern(0), lantern(1))
        self.assertEqual([has(answer) for answer in told[-2:]], [0, 1600])

    def test_no_such_lantern(self):
        for number in (1, 2, 100):
            self.assertEqual(left_as_it_was(lit([30]), fill(number, 1)), ([-2], True), number)
        self.assertEqual(last(*stocked(200, *CLEAR), fill(0, 0)), [-2])
        self.assertEqual(left_as_it_was(lit([30]) + [sell(0)], fill(0, 1)), ([-2], True))

    def test_no_such_lantern_comes_before_too_much(self):
        self.assertEqual(last(*lit([30]), fill(1, 5000)), [-2])
        self.assertEqual(last(*lit([30]), fill(0, 5000)), [-1])

    def test_a_refusal_changes_nothing(self):
        self.assertEqual(left_as_it_was(lit([30, 40], [899, 5]), fill(0, 2)), ([-1], True))
        self.assertEqual(left_as_it_was(lit([30, 40], [899, 5]), fill(1, 5000)), ([-1], True))


class Night(unittest.TestCase):
    def test_a_fiftieth_rounded_down(self):
        for oil, burnt in ((0, 0), (1, 0), (49, 0), (50, 1), (51, 1), (99, 1), (100, 2), (149, 2), (900, 18)):
            told = ask(*lit([30], [oil]), night(), lantern(0))
            self.assertEqual(told[-2], [burnt], oil)
            self.assertEqual(has(told[-1]), oil - burnt, oil)

    def test_painted_panes(self):
        # 1, 0, 0 and 1, 0, 1, 0 and 1, 0, 1, 0, 1, 0, in the spelling that is first.
        for girth, painted, clear, count in ((30, 1, 2, 1), (40, 2, 2, 2), (60, 3, 3, 3), (50, 0, 5, 0)):
            calls = lit([girth], [200], ((10, 1, painted), (10, 0, clear)))
            told = ask(*calls, night(), lantern(0), night())
            self.assertEqual(told[-3], [4 + count], girth)
            self.assertEqual(has(told[-2]), 196 - count, girth)
            self.assertEqual(told[-1], [3 + count], girth)

    def test_fiftieth_is_of_all_it_has(self):
        # Of 50 measures one is for the painted pane, and one is the fiftieth.
        self.assertEqual(last(*lit([30], [50], ((10, 1, 1), (10, 0, 2))), night()), [2])
        self.assertEqual(last(*lit([30], [49], ((10, 1, 1), (10, 0, 2))), night()), [1])

    def test_fiftieth_is_of_each_lantern(self):
        self.assertEqual(last(*lit([30, 30], [49, 49]), night()), [0])
        told = ask(*lit([30, 40, 50], [99, 150, 30]), night(), lantern(0), lantern(1), lantern(2))
        self.assertEqual(told[-4], [4])
        self.assertEqual([has(answer) for answer in told[-3:]], [98, 147, 30])

    def test_less_than_it_would_burn(self):
        three_painted = ((10, 1, 3), (10, 0, 3))
        for oil, burnt in ((0, 0), (1, 1), (2, 2), (3, 3), (4, 3)):
            told = ask(*lit([60], [oil], three_painted), night(), lantern(0), night())
            self.assertEqual(told[-3], [burnt], oil)
            self.assertEqual(has(told[-2]), oil - burnt, oil)
            self.assertEqual(told[-1], [oil - burnt], oil)

    def test_what_one_lacks_another_does_not_burn(self):
        told = ask(*lit([60, 30], [1, 20], ((10, 1, 3), (10, 0, 99))), night(), lantern(0), lantern(1))
        self.assertEqual(told[-3], [1])
        self.assertEqual([has(answer) for answer in told[-2:]], [0, 20])

    def test_no_lantern(self):
        self.assertEqual(last(*stocked(200, *CLEAR), night()), [0])
        self.assertEqual(last(*lit([30], [900]), sell(0), night()), [0])

    def test_no_oil(self):
        self.assertEqual(last(*lit([30, 40]), night()), [0])
        self.assertEqual(last(*lit([30], [], ((10, 1, 1), (10, 0, 2))), night()), [0])

    def test_painted_panes_once_mended(self):
        calls = lit([30], [40], ((10, 0, 2), (10, 1, 1)))
        self.assertEqual(last(*calls, night()), [1])
        self.assertEqual(last(*calls, panes(0, 1), mend(0, 2), night()), [0])
        calls = lit([30], [40], ((10, 0, 3), (10, 1, 1)))
        self.assertEqual(last(*calls, night()), [0])
        self.assertEqual(last(*calls, mend(0, 2), night()), [1])


if __name__ == "__main__":
    unittest.main()
