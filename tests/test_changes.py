"""take, limit, drop and aim: what they answer, what they refuse, what they leave."""

import unittest

from tests.helper import (
    BEST, CORNERS, GREATEST, KIND, PRICES, TOLD, WHOLE, WHY, aim, ask, check, drop, last, limit, met, reach, take,
)

TOO_MUCH = [1001, -1001, GREATEST, -GREATEST]
# Three kinds, each with a limit of its own: best and prices tell every number of it.
BOXES = take(3, [1, 0, 0, 0, 1, 0, 0, 0, 1], [1, 2, 3], [5, 7, 11])
BOXES_BEST = [0, 2, 52, 1, 6, 1, 1, 2, 1, 3, 1]
BOXES_PRICES = [0, 2, 52, 1, 6, 5, 1, 7, 1, 11, 1]
SIX = take(2, [1, 0, 0, 1, 1, 1, 2, 1, 1, 2, 3, 3], [9, 9, 9, 9, 9, 9], [1, 1])


def with_number(numbers, place, number):
    return numbers[:place] + [number] + numbers[place + 1:]


class Take(unittest.TestCase):
    def test_answers_how_many_limits(self):
        for n in (1, 2, 3, 4):
            for many in range(7):
                self.assertEqual(ask(take(n, [1] * (n * many), [1] * many, [1] * n)), [[many]])

    def test_n_is_not_1_to_4(self):
        self.assertEqual(ask(take(0, [], [], [])), [[-1]])
        self.assertEqual(ask(take(0, [], [1, 2], [])), [[-1]])
        for n in (5, 6):
            self.assertEqual(ask(take(n, [1] * n, [1], [1] * n)), [[-1]])
        for lists in (([], [], []), ([1], [1], [1]), ([1] * 4, [1], [1] * 4)):
            self.assertEqual(ask(take(GREATEST, *lists)), [[-1]])

    def test_more_than_6_limits(self):
        for n in (1, 2, 3, 4):
            for many in (7, 8, 50):
                self.assertEqual(ask(take(n, [1] * (n * many), [1] * many, [1] * n)), [[-1]])

    def test_lists_too_short_or_too_long(self):
        for n in (1, 2, 3, 4):
            for many in (0, 1, 3, 6):
                a, b, c = [1] * (n * many), [1] * many, [1] * n
                wrong = [(a + [1], b, c), (a, b, c + [1]), (a, b, c[1:]), (a, b + [1], c)]
                if many:
                    wrong += [(a[1:], b, c), (a, b[1:], c), ([], b, c), (a, [], c)]
                for lists in wrong:
                    with self.subTest(n=n, lists=lists):
                        self.assertEqual(ask(take(n, *lists)), [[-1]])

    def test_a_limit_too_many_in_a_is_not_cut_off(self):
        self.assertEqual(ask(take(2, [1] * 6, [1] * 2, [1] * 2)), [[-1]])

    def test_numbers_of_a_thousand_are_taken(self):
        for number in (1000, -1000):
            for many in (0, 1, 6):
                calls = take(4, [number] * (4 * many), [number] * many, [number] * 4)
                self.assertEqual(ask(calls), [[many]])

    def test_a_number_above_a_thousand_in_size(self):
        a, b, c = [1, 2, 3, 4], [5, 6], [7, 8]
        for number in TOO_MUCH:
            for place in range(4):
                self.assertEqual(ask(take(2, with_number(a, place, number), b, c)), [[-1]])
            for place in range(2):
                self.assertEqual(ask(take(2, a, with_number(b, place, number), c)), [[-1]])
                self.assertEqual(ask(take(2, a, b, with_number(c, place, number))), [[-1]])

    def test_a_refused_take_leaves_the_frame(self):
        for wrong in (take(0, [], [], []), take(1, [1], [1], [1001]), take(1, [1, 1], [1], [1]),
                      take(2, [1] * 14, [1] * 7, [1] * 2), take(3, [1001, 1, 1], [4], [1, 1, 1])):
            self.assertEqual(ask(BOXES, wrong, KIND, BEST, PRICES), [[3], [-1], [1], BOXES_BEST, BOXES_PRICES])

    def test_a_refused_take_without_a_frame_leaves_none(self):
        self.assertEqual(ask(take(5, [], [], []), KIND), [[-1], [-9]])

    def test_a_take_puts_another_frame_in_its_place(self):
        self.assertEqual(
            ask(BOXES, take(1, [2], [3], [1]), BEST, PRICES, take(1, [], [], [1]), KIND),
            [[3], [1], [0, 2, 3, 2, 2, 3, 2], [0, 2, 3, 2, 2, 1, 2], [0], [2]])

    def test_a_stands_limit_by_limit_kind_by_kind(self):
        # Read the other way round the second kind would be without end.
        self.assertEqual(ask(take(2, [1, 2, 0, 1], [10, 3], [1, 5]), BEST),
                         [[2], [0, 2, 19, 1, 4, 4, 1, 3, 1]])


class Limit(unittest.TestCase):
    def test_answers_its_number(self):
        for n in (1, 4):
            calls = [take(n, [], [], [1] * n)] + [limit(5, [1] * n)] * 6
            self.assertEqual(ask(*calls), [[0], [0], [1], [2], [3], [4], [5]])

    def test_it_is_a_limit_too_the_last(self):
        self.assertEqual(ask(BOXES, limit(4, [0, 1, 1]), BEST, PRICES), [
            [3], [3], [0, 2, 45, 1, 6, 1, 1, 1, 1, 3, 1], [0, 2, 45, 1, 8, 5, 1, 0, 1, 4, 1, 7, 1]])

    def test_numbers_of_a_thousand_are_taken(self):
        self.assertEqual(ask(BOXES, limit(1000, [1000] * 3), limit(-1000, [-1000] * 3)), [[3], [3], [4]])

    def test_a_list_of_the_wrong_length(self):
        for numbers in ([], [1], [1, 1], [1, 1, 1, 1], [1] * 6):
            self.assertEqual(ask(BOXES, limit(0, numbers), BEST, PRICES), [[3], [-1], BOXES_BEST, BOXES_PRICES])

    def test_a_number_above_a_thousand_in_size(self):
        for number in TOO_MUCH:
            wrong = [limit(number, [1, 1, 1])]
            wrong += [limit(1, with_number([0, 0, 0], place, number)) for place in range(3)]
            for call in wrong:
                self.assertEqual(ask(BOXES, call, BEST, PRICES), [[3], [-1], BOXES_BEST, BOXES_PRICES])

    def test_there_are_6(self):
        before = ask(SIX, BEST, PRICES)
        self.assertEqual(ask(SIX, limit(0, [1, 1]), BEST, PRICES), [[6], [-6]] + before[1:])
        self.assertEqual(ask(SIX, drop(2), limit(0, [1, 1]), limit(0, [1, 1])), [[6], [5], [5], [-6]])

    def test_minus_1_comes_ahead_of_minus_6(self):
        for call in (limit(0, [1]), limit(0, [1, 1, 1]), limit(1001, [1, 1]), limit(0, [1, -1001])):
            self.assertEqual(ask(SIX, call), [[6], [-1]])

    def test_minus_9_comes_ahead_of_all(self):
        for call in (limit(0, [1]), limit(0, []), limit(GREATEST, [1] * 9), limit(0, [-1001])):
            self.assertEqual(ask(call), [[-9]])

    def test_what_a_later_take_does_not_bring_is_gone(self):
        self.assertEqual(ask(BOXES, limit(0, [1, 1, 1]), BOXES, BEST), [[3], [3], [3], BOXES_BEST])


class Drop(unittest.TestCase):
    def test_the_first(self):
        self.assertEqual(ask(BOXES, drop(0), KIND, aim([0, 7, 11]), BEST, PRICES), [
            [3], [2], [2], [0], [0, 2, 47, 1, 6, 0, 1, 2, 1, 3, 1], [0, 2, 47, 1, 4, 7, 1, 11, 1]])

    def test_a_middle_one(self):
        self.assertEqual(ask(BOXES, drop(1), KIND, aim([5, 0, 11]), BEST, PRICES), [
            [3], [2], [2], [0], [0, 2, 38, 1, 6, 1, 1, 0, 1, 3, 1], [0, 2, 38, 1, 4, 5, 1, 11, 1]])

    def test_the_last(self):
        self.assertEqual(ask(BOXES, drop(2), KIND, aim([5, 7, 0]), BEST, PRICES), [
            [3], [2], [2], [0], [0, 2, 19, 1, 6, 1, 1, 2, 1, 0, 1], [0, 2, 19, 1, 4, 5, 1, 7, 1]])

    def test_those_behind_are_numbered_one_less(self):
        self.assertEqual(ask(BOXES, drop(0), drop(1), drop(1), aim([0, 1, 0]), PRICES), [
            [3], [2], [1], [-4], [0], [0, 2, 2, 1, 2, 1, 1]])

    def test_down_to_none(self):
        self.assertEqual(ask(BOXES, drop(0), drop(0), drop(0), drop(0), aim([0, 0, -1]), PRICES),
                         [[3], [2], [1], [0], [-4], [0], [0, 2, 0, 1, 0]])

    def test_one_brought_by_limit(self):
        self.assertEqual(ask(BOXES, limit(0, [1, 1, 1]), drop(3), BEST, PRICES),
                         [[3], [3], [3], BOXES_BEST, BOXES_PRICES])

    def test_no_such_limit(self):
        for number in (3, 4, 6, 1000, GREATEST):
            self.assertEqual(ask(BOXES, drop(number), BEST, PRICES), [[3], [-4], BOXES_BEST, BOXES_PRICES])
        for number in (0, 1, GREATEST):
            self.assertEqual(ask(take(2, [], [], [1, 1]), drop(number)), [[0], [-4]])


class Aim(unittest.TestCase):
    def test_the_gain_is_another(self):
        self.assertEqual(ask(BOXES, aim([1, -1, 2]), KIND, BEST, PRICES), [
            [3], [0], [1], [0, 2, 7, 1, 6, 1, 1, 0, 1, 3, 1], [0, 2, 7, 1, 6, 1, 1, 0, 1, 2, 1]])

    def test_the_kind_goes_with_it(self):
        calls = take(2, [1, -1], [1], [1, 0])
        self.assertEqual(ask(calls, KIND, aim([1, -1]), KIND, BEST, aim([0, 1]), KIND, BEST, PRICES), [
            [1], [2], [0], [1], [0, 2, 1, 1, 4, 1, 1, 0, 1], [0], [2], [-5], [-5]])

    def test_numbers_of_a_thousand_are_taken(self):
        self.assertEqual(last(BOXES, aim([1000, -1000, 1000]), BEST), [0, 2, 4000, 1, 6, 1, 1, 0, 1, 3, 1])

    def test_wrong_lengths_and_numbers(self):
        wrong = [[], [1], [1, 1], [1, 1, 1, 1]]
        wrong += [with_number([1, 1, 1], place, number) for number in TOO_MUCH for place in range(3)]
        for gain in wrong:
            self.assertEqual(ask(BOXES, aim(gain), BEST, PRICES), [[3], [-1], BOXES_BEST, BOXES_PRICES])


class WithoutFrame(unittest.TestCase):
    def test_all_but_take_is_refused(self):
        calls = [limit(1, [1]), drop(0), drop(GREATEST), aim([1]), aim([]), KIND, BEST, PRICES, WHY, CORNERS,
                 check([1, 1]), check([]), met([1, 0]), met([]), reach(0), reach(GREATEST), WHOLE, TOLD]
        for call in calls:
            self.assertEqual(ask(call), [[-9]])
        self.assertEqual(ask(*calls), [[-9]] * len(calls))
        self.assertEqual(ask(*calls, BOXES, BEST)[-2:], [[3], BOXES_BEST])


if __name__ == "__main__":
    unittest.main()
