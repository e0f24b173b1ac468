"""check and met: at corners, between them, outside, and what they refuse."""

import unittest
from fractions import Fraction

from tests.helper import BEST, GREATEST, TOLD, ask, check, fractions_of, last, lists_of, met, take

# 3x + y <= 4 and x + 3y <= 5; its corners are (0, 0), (0, 5/3), (7/8, 11/8) and (4/3, 0).
WORKSHOP = take(2, [3, 1, 1, 3], [4, 5], [2, 7])
SQUARE = take(2, [1, 0, 0, 1, 1, 1, 1, -1], [1, 1, 2, 0], [1, 1])
HALVES = take(2, [1, 1], [1], [1, 1])


def checked(call, x):
    return last(call, check(x))


def met_at(call, x):
    return last(call, met(x))


class Check(unittest.TestCase):
    def test_at_corners(self):
        self.assertEqual(checked(WORKSHOP, [0, 1, 0, 1]), [1, 2, 0, 1])
        self.assertEqual(checked(WORKSHOP, [0, 1, 5, 3]), [1, 2, 35, 3])
        self.assertEqual(checked(WORKSHOP, [7, 8, 11, 8]), [1, 2, 91, 8])
        self.assertEqual(checked(WORKSHOP, [4, 3, 0, 1]), [1, 2, 8, 3])

    def test_between_them(self):
        self.assertEqual(checked(WORKSHOP, [2, 3, 0, 1]), [1, 2, 4, 3])
        self.assertEqual(checked(WORKSHOP, [1, 2, 1, 3]), [1, 2, 10, 3])

    def test_outside_the_first_that_is_not_kept(self):
        self.assertEqual(checked(WORKSHOP, [2, 1, 0, 1]), [0, 1, 0])
        self.assertEqual(checked(WORKSHOP, [2, 1, 2, 1]), [0, 1, 0])
        self.assertEqual(checked(WORKSHOP, [0, 1, 2, 1]), [0, 1, 1])
        self.assertEqual(checked(WORKSHOP, [-1, 1, 0, 1]), [0, 1, 2])
        self.assertEqual(checked(WORKSHOP, [-1, 1, -1, 1]), [0, 1, 2])
        self.assertEqual(checked(WORKSHOP, [0, 1, -1, 1]), [0, 1, 3])
        self.assertEqual(checked(WORKSHOP, [-1, 1, 9, 1]), [0, 1, 0])
        self.assertEqual(checked(WORKSHOP, [-3, 1, 3, 1]), [0, 1, 1])

    def test_limits_stand_ahead_of_the_kinds(self):
        self.assertEqual(checked(take(3, [], [], [1, 1, 1]), [0, 1, 0, 1, -1, 5]), [0, 1, 2])
        self.assertEqual(checked(take(3, [1, 1, 1], [1], [1, 1, 1]), [0, 1, 0, 1, -1, 5]), [0, 1, 3])
        six = take(4, [1, 1, 1, 1] * 6, [1] * 6, [1] * 4)
        self.assertEqual(checked(six, [0, 1, 0, 1, 0, 1, -1, 1]), [0, 1, 9])
        self.assertEqual(checked(six, [2, 1, 0, 1, 0, 1, -1, 1]), [0, 1, 9])
        self.assertEqual(checked(six, [3, 1, 0, 1, 0, 1, -1, 1]), [0, 1, 0])

    def test_fractions_need_not_be_in_lowest_form(self):
        self.assertEqual(checked(WORKSHOP, [14, 16, 22, 16]), [1, 2, 91, 8])
        self.assertEqual(checked(WORKSHOP, [0, 77, 10, 6]), [1, 2, 35, 3])
        self.assertEqual(checked(WORKSHOP, [0, 1000, 0, GREATEST]), [1, 2, 0, 1])

    def test_got_below_0(self):
        self.assertEqual(checked(take(2, [], [], [-2, 1]), [3, 4, 1, 3]), [1, 2, -7, 6])

    def test_the_kind_of_the_frame_does_not_count(self):
        self.assertEqual(checked(take(1, [], [], [1]), [5, 2]), [1, 2, 5, 2])
        self.assertEqual(checked(take(1, [1, -1], [2, -3], [1]), [5, 2]), [0, 1, 0])
        self.assertEqual(checked(take(1, [1, -1], [2, -3], [1]), [1, 1]), [0, 1, 1])

    def test_great_numbers(self):
        self.assertEqual(checked(HALVES, [GREATEST, 1, 0, 1]), [0, 1, 0])
        self.assertEqual(checked(HALVES, [-GREATEST, 1, 0, 1]), [0, 1, 1])
        self.assertEqual(checked(HALVES, [GREATEST, GREATEST, 0, GREATEST]), [1, 2, 1, 1])
        self.assertEqual(checked(HALVES, [-1, GREATEST, 1, GREATEST]), [0, 1, 1])
        self.assertEqual(checked(take(1, [], [], [1000]), [GREATEST, 1]), [1, 2, 1000 * GREATEST, 1])

    def test_great_numbers_just_at_a_limit(self):
        self.assertEqual(checked(HALVES, [GREATEST - 1, GREATEST, 1, GREATEST]), [1, 2, 1, 1])
        self.assertEqual(checked(HALVES, [GREATEST - 1, GREATEST, 1, GREATEST - 1]), [0, 1, 0])
        got = Fraction(GREATEST - 2, GREATEST - 1) + Fraction(1, GREATEST)
        self.assertEqual(checked(HALVES, [GREATEST - 2, GREATEST - 1, 1, GREATEST]),
                         [1, 2, got.numerator, got.denominator])

    def test_great_numbers_of_four_kinds(self):
        x = [GREATEST, GREATEST - 1, GREATEST - 2, GREATEST - 3, GREATEST - 4, GREATEST - 5, 1, GREATEST - 6]
        gain = [1000, -999, 998, -997]
        got = sum(number * Fraction(x[2 * kind], x[2 * kind + 1]) for kind, number in enumerate(gain))
        answer = checked(take(4, [], [], gain), x)
        self.assertEqual(answer[0], 1)
        self.assertEqual(fractions_of(lists_of(answer)[0]), [got])


class Met(unittest.TestCase):
    def test_at_corners(self):
        self.assertEqual(met_at(WORKSHOP, [0, 1, 0, 1]), [2, 2, 2, 3])
        self.assertEqual(met_at(WORKSHOP, [0, 1, 5, 3]), [2, 2, 1, 2])
        self.assertEqual(met_at(WORKSHOP, [7, 8, 11, 8]), [2, 2, 0, 1])
        self.assertEqual(met_at(WORKSHOP, [4, 3, 0, 1]), [2, 2, 0, 3])

    def test_more_than_kinds(self):
        self.assertEqual(met_at(SQUARE, [1, 1, 1, 1]), [4, 4, 0, 1, 2, 3])
        self.assertEqual(met_at(SQUARE, [0, 1, 0, 1]), [3, 3, 3, 4, 5])
        self.assertEqual(met_at(take(1, [0] * 6, [0] * 6, [1]), [0, 5]), [7, 7, 0, 1, 2, 3, 4, 5, 6])

    def test_between_them(self):
        self.assertEqual(met_at(WORKSHOP, [2, 3, 0, 1]), [1, 1, 3])
        self.assertEqual(met_at(WORKSHOP, [1, 2, 1, 3]), [0, 0])
        self.assertEqual(met_at(SQUARE, [1, 2, 1, 2]), [1, 1, 3])

    def test_outside(self):
        self.assertEqual(met_at(WORKSHOP, [0, 1, 4, 1]), [2, 2, 0, 2])
        self.assertEqual(met_at(WORKSHOP, [-4, 1, 3, 1]), [1, 1, 1])
        self.assertEqual(met_at(WORKSHOP, [-1, 1, 0, 1]), [1, 1, 3])
        self.assertEqual(met_at(WORKSHOP, [9, 1, 9, 1]), [0, 0])
        self.assertEqual(met_at(take(1, [1, -1], [2, -3], [1]), [3, 1]), [1, 1, 1])

    def test_no_limit(self):
        self.assertEqual(met_at(take(4, [], [], [1] * 4), [0, 1, 1, 2, 0, 3, -1, 4]), [2, 2, 0, 2])
        self.assertEqual(met_at(take(1, [], [], [1]), [1, 1]), [0, 0])

    def test_fractions_need_not_be_in_lowest_form(self):
        self.assertEqual(met_at(WORKSHOP, [14, 16, 33, 24]), [2, 2, 0, 1])
        self.assertEqual(met_at(WORKSHOP, [0, 9, 0, GREATEST]), [2, 2, 2, 3])

    def test_great_numbers(self):
        self.assertEqual(met_at(HALVES, [GREATEST - 1, GREATEST, 1, GREATEST]), [1, 1, 0])
        self.assertEqual(met_at(HALVES, [GREATEST - 1, GREATEST, 1, GREATEST - 1]), [0, 0])
        self.assertEqual(met_at(HALVES, [GREATEST, GREATEST, 0, GREATEST]), [2, 2, 0, 2])
        self.assertEqual(met_at(HALVES, [-GREATEST, 1, GREATEST, 1]), [0, 0])
        self.assertEqual(met_at(take(2, [1, 1], [0], [0, 0]), [-GREATEST, 1, GREATEST, 1]), [1, 1, 0])


class Refused(unittest.TestCase):
    def test_a_list_of_another_length(self):
        for n in (1, 2, 3, 4):
            call = take(n, [1] * n, [1], [1] * n)
            for many in range(0, 2 * n + 4):
                if many != 2 * n:
                    with self.subTest(n=n, many=many):
                        self.assertEqual(ask(call, check([1] * many), met([1] * many)), [[1], [-1], [-1]])
            # One of each kind: with one kind that just meets the limit, with more it breaks it.
            expected = [[1, 2, 1, 1], [1, 1, 0]] if n == 1 else [[0, 1, 0], [0, 0]]
            self.assertEqual(ask(call, check([1] * (2 * n)), met([1] * (2 * n)))[1:], expected)

    def test_a_lower_number_of_0_or_below(self):
        for n in (1, 2, 4):
            for kind in range(n):
                for lower in (0, -1, -2, -GREATEST):
                    x = [0, 1] * n
                    x[2 * kind + 1] = lower
                    with self.subTest(x=x):
                        self.assertEqual(ask(take(n, [], [], [1] * n), check(x), met(x)), [[0], [-1], [-1]])

    def test_upper_and_lower_below_0_are_no_fraction(self):
        self.assertEqual(ask(WORKSHOP, check([-1, -1, 0, 1]), met([-4, -3, 0, 1])), [[2], [-1], [-1]])

    def test_also_outside(self):
        self.assertEqual(ask(WORKSHOP, check([9, 1, 9, 0]), met([-9, 0, 9, 1])), [[2], [-1], [-1]])

    def test_by_the_kinds_of_the_frame_that_there_is(self):
        other = take(1, [], [], [1])
        self.assertEqual(ask(WORKSHOP, other, check([0, 1, 0, 1]), met([0, 1]), WORKSHOP, check([0, 1])),
                         [[2], [0], [-1], [1, 1, 0], [2], [-1]])

    def test_long_lists(self):
        self.assertEqual(ask(WORKSHOP, check([1] * 7900), met([1] * 7900), BEST)[1:3], [[-1], [-1]])

    def test_nothing_is_changed(self):
        calls = [check([7, 8, 11, 8]), check([9, 1, 9, 1]), met([7, 8, 11, 8]), check([]), met([1, 0, 1, 0])]
        self.assertEqual(ask(WORKSHOP, *calls, TOLD)[-1], ask(WORKSHOP, TOLD)[-1])


if __name__ == "__main__":
    unittest.main()
