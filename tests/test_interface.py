"""The one list in, the one list out."""

import unittest

from straightlimits.frames import answers
from tests.helper import (
    BEST, CORNERS, KIND, PRICES, TOLD, WHOLE, WHY, aim, ask, check, drop, frame_call, joined, limit, met, reach,
    some_frames, take,
)

WORKSHOP = take(2, [3, 1, 1, 3], [4, 5], [1, 1])
ASKING = [KIND, BEST, PRICES, WHY, CORNERS, check([1, 2, 1, 3]), met([1, 1, 1, 1]), reach(1), WHOLE, TOLD]


class Unchanging(list):
    """A list that tells of every try to change it."""

    def refuse(self, *handed):
        raise AssertionError("the list handed in is changed")

    append = clear = extend = insert = pop = remove = reverse = sort = refuse
    __setitem__ = __delitem__ = __iadd__ = __imul__ = refuse


class Interface(unittest.TestCase):
    def test_the_empty_list_answers_the_empty_list(self):
        self.assertEqual(answers([]), [])

    def test_one_call(self):
        self.assertEqual(answers(take(1, [1], [5], [2])), [1, 1])
        self.assertEqual(answers([4]), [1, -9])

    def test_several_calls_each_with_its_count(self):
        calls = joined([WORKSHOP, KIND, BEST, PRICES, drop(7), aim([0, 0]), limit(9, [1, 1]), drop(0)])
        self.assertEqual(answers(calls), [
            1, 2,
            1, 1,
            9, 0, 2, 9, 4, 4, 7, 8, 11, 8,
            9, 0, 2, 9, 4, 4, 1, 4, 1, 4,
            1, -4,
            1, 0,
            1, 2,
            1, 2,
        ])

    def test_the_lists_of_best_and_prices_have_their_own_lengths(self):
        told = answers(joined([take(3, [1, 1, 1], [6], [1, 2, 3]), BEST, PRICES]))
        self.assertEqual(told, [1, 1, 11, 0, 2, 18, 1, 6, 0, 1, 0, 1, 6, 1, 7, 0, 2, 18, 1, 2, 3, 1])

    def test_the_calls_by_their_numbers(self):
        told = answers(WORKSHOP + [7] + [8] + [9, 4, 1, 2, 1, 3] + [10, 4, 1, 1, 1, 1] + [11, 1] + [12] + [13])
        self.assertEqual(told, [
            1, 2,
            1, -5,
            21, 4, 4, 0, 1, 0, 1, 4, 0, 1, 5, 3, 4, 7, 8, 11, 8, 4, 4, 3, 0, 1,
            4, 1, 2, 5, 6,
            3, 1, 1, 0,
            7, 0, 2, 0, 1, 2, 5, 3,
            9, 0, 2, 2, 1, 4, 1, 1, 1, 1,
            11, 2, 6, 3, 1, 4, 1, 3, 5, 2, 1, 1,
        ])

    def test_empty_lists_have_their_count_too(self):
        told = answers(joined([take(2, [], [], [0, 0]), met([1, 1, 1, 1]), TOLD, PRICES]))
        self.assertEqual(told, [1, 0, 2, 0, 0, 5, 2, 0, 2, 0, 0, 5, 0, 2, 0, 1, 0])
        self.assertEqual(answers(joined([take(1, [1], [-1], [0]), CORNERS])), [1, 1, 1, 0])

    def test_forty_calls(self):
        self.assertEqual(ask(*[WORKSHOP] * 40), [[2]] * 40)
        self.assertEqual(ask(*[WORKSHOP] + [BEST] * 39)[1:], [[0, 2, 9, 4, 4, 7, 8, 11, 8]] * 39)

    def test_a_long_row_is_read_to_its_end(self):
        long_row = [1] * 15900
        self.assertEqual(ask(take(1, long_row, [1], [1]), WORKSHOP, KIND), [[-1], [2], [1]])
        self.assertEqual(ask(WORKSHOP, limit(1, long_row), KIND), [[2], [-1], [1]])
        self.assertEqual(ask(WORKSHOP, aim(long_row), KIND), [[2], [-1], [1]])
        self.assertEqual(ask(WORKSHOP, check(long_row), KIND), [[2], [-1], [1]])
        self.assertEqual(ask(WORKSHOP, met(long_row), KIND), [[2], [-1], [1]])
        self.assertEqual(ask(met(long_row), WORKSHOP, KIND), [[-9], [2], [1]])

    def test_refused_calls_are_read_to_their_end(self):
        self.assertEqual(ask(limit(3, [4, 4, 4]), aim([4, 5]), drop(4), WORKSHOP, KIND), [[-9], [-9], [-9], [2], [1]])

    def test_the_list_handed_in_stays_as_it_is(self):
        ways = [take(2, [], [], [1, 2]), *ASKING, take(1, [1], [-1], [0]), WHY, CORNERS, WHOLE, reach(0)]
        calls = joined([WORKSHOP, limit(2, [1, 0]), aim([2, 5]), *ASKING, drop(1), drop(9), *ASKING, *ways])
        before = list(calls)
        told = answers(calls)
        self.assertEqual(calls, before)
        self.assertEqual(answers(Unchanging(before)), told)

    def test_what_is_answered_is_a_list_of_its_own(self):
        calls = joined([WORKSHOP, BEST])
        first = answers(calls)
        copy = list(first)
        first.append(0)
        first[0] = 77
        self.assertEqual(answers(calls), copy)

    def test_asked_twice_it_answers_the_same(self):
        for limits, gain in some_frames(77, 20, 3, 4, 3):
            calls = joined([frame_call(3, limits, gain), *ASKING, reach(2), drop(1), *ASKING, check([1, 1] * 3)])
            self.assertEqual(answers(calls), answers(calls))

    def test_a_second_time_knows_no_frame_of_the_first(self):
        self.assertEqual(answers(WORKSHOP), [1, 2])
        self.assertEqual(answers(joined(ASKING)), [1, -9] * len(ASKING))

    def test_a_second_time_knows_no_limit_or_gain_of_the_first(self):
        plain = joined([WORKSHOP, *ASKING])
        before = answers(plain)
        answers(joined([WORKSHOP, limit(1, [1, 1]), aim([5, -5]), drop(0)]))
        self.assertEqual(answers(plain), before)

    def test_asking_calls_without_a_frame_are_read_to_their_end(self):
        for call in ASKING:
            self.assertEqual(ask(call, WORKSHOP, KIND), [[-9], [2], [1]])

    def test_asking_calls_leave_the_frame(self):
        once = [ask(WORKSHOP, call)[1] for call in ASKING]
        self.assertEqual(ask(WORKSHOP, *ASKING, *reversed(ASKING))[1:], once + once[::-1])


if __name__ == "__main__":
    unittest.main()
