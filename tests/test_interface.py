"""The one list in, the one list out."""

import unittest

from straightlimits.frames import CallNotBuilt, answers
from tests.helper import BEST, KIND, PRICES, aim, ask, drop, frame_call, joined, limit, row, some_frames, take

WORKSHOP = take(2, [3, 1, 1, 3], [4, 5], [1, 1])
LATER_CALLS = [[7], [8], [9] + row([1, 1, 1, 1]), [10] + row([1, 1, 1, 1]), [11, 0], [12], [13]]


class Unchanging(list):
    """A list that tells of every try to change it."""

    def refuse(self, *handed):
        raise AssertionError("the list handed in is changed")

    append = clear = extend = insert = pop = remove = reverse = sort = refuse
    __setitem__ = __delitem__ = __iadd__ = __imul__ = refuse


class Interface(unittest.TestCase):
    def test_the_empty_list_answers_the_empty_list(self):
        self.assertEqual(answers([]), [])

    def test_one_call(self):
        self.assertEqual(answers(take(1, [1], [5], [2])), [1, 1])
        self.assertEqual(answers([4]), [1, -9])

    def test_several_calls_each_with_its_count(self):
        calls = joined([WORKSHOP, KIND, BEST, PRICES, drop(7), aim([0, 0]), limit(9, [1, 1]), drop(0)])
        self.assertEqual(answers(calls), [
            1, 2,
            1, 1,
            9, 0, 2, 9, 4, 4, 7, 8, 11, 8,
            9, 0, 2, 9, 4, 4, 1, 4, 1, 4,
            1, -4,
            1, 0,
            1, 2,
            1, 2,
        ])

    def test_the_lists_of_best_and_prices_have_their_own_lengths(self):
        told = answers(joined([take(3, [1, 1, 1], [6], [1, 2, 3]), BEST, PRICES]))
        self.assertEqual(told, [1, 1, 11, 0, 2, 18, 1, 6, 0, 1, 0, 1, 6, 1, 7, 0, 2, 18, 1, 2, 3, 1])

    def test_forty_calls(self):
        self.assertEqual(ask(*[WORKSHOP] * 40), [[2]] * 40)
        self.assertEqual(ask(*[WORKSHOP] + [BEST] * 39)[1:], [[0, 2, 9, 4, 4, 7, 8, 11, 8]] * 39)

    def test_a_long_row_is_read_to_its_end(self):
        long_row = [1] * 15900
        self.assertEqual(ask(take(1, long_row, [1], [1]), WORKSHOP, KIND), [[-1], [2], [1]])
        self.assertEqual(ask(WORKSHOP, limit(1, long_row), KIND), [[2], [-1], [1]])
        self.assertEqual(ask(WORKSHOP, aim(long_row), KIND), [[2], [-1], [1]])

    def test_refused_calls_are_read_to_their_end(self):
        self.assertEqual(ask(limit(3, [4, 4, 4]), aim([4, 5]), drop(4), WORKSHOP, KIND), [[-9], [-9], [-9], [2], [1]])

    def test_the_list_handed_in_stays_as_it_is(self):
        calls = joined([WORKSHOP, limit(2, [1, 0]), aim([2, 5]), KIND, BEST, PRICES, drop(1), drop(9), BEST])
        before = list(calls)
        told = answers(calls)
        self.assertEqual(calls, before)
        self.assertEqual(answers(Unchanging(before)), told)

    def test_what_is_answered_is_a_list_of_its_own(self):
        calls = joined([WORKSHOP, BEST])
        first = answers(calls)
        copy = list(first)
        first.append(0)
        first[0] = 77
        self.assertEqual(answers(calls), copy)

    def test_asked_twice_it_answers_the_same(self):
        for limits, gain in some_frames(77, 20, 3, 4, 3):
            calls = joined([frame_call(3, limits, gain), KIND, BEST, PRICES, drop(1), KIND, BEST, PRICES])
            self.assertEqual(answers(calls), answers(calls))

    def test_a_second_time_knows_no_frame_of_the_first(self):
        self.assertEqual(answers(WORKSHOP), [1, 2])
        self.assertEqual(answers(joined([KIND, BEST, PRICES])), [1, -9, 1, -9, 1, -9])

    def test_a_second_time_knows_no_limit_or_gain_of_the_first(self):
        plain = joined([WORKSHOP, BEST, PRICES])
        before = answers(plain)
        answers(joined([WORKSHOP, limit(1, [1, 1]), aim([5, -5]), drop(0)]))
        self.assertEqual(answers(plain), before)

    def test_later_calls_are_read_to_their_end(self):
        for call in LATER_CALLS:
            self.assertEqual(ask(call, WORKSHOP, KIND), [[-9], [2], [1]])

    def test_later_calls_answer_nothing_wrong_of_a_frame(self):
        for call in LATER_CALLS:
            with self.assertRaises(CallNotBuilt):
                answers(joined([WORKSHOP, call]))


if __name__ == "__main__":
    unittest.main()
