"""told: the frame as it stands, behind calls that change it and behind calls that are refused."""

import unittest

from tests.helper import (
    BEST, CORNERS, GREATEST, KIND, PRICES, TOLD, WHOLE, WHY, aim, ask, check, drop, last, limit, met, reach, take,
)

WORKSHOP = take(2, [3, 1, 1, 4], [5, 9], [2, 6])
AS_TAKEN = [2, 6, 3, 1, 5, 1, 4, 9, 2, 2, 6]


class Told(unittest.TestCase):
    def test_behind_take(self):
        self.assertEqual(last(WORKSHOP, TOLD), AS_TAKEN)
        self.assertEqual(last(take(1, [-7], [0], [1000]), TOLD), [1, 2, -7, 0, 1, 1000])
        self.assertEqual(last(WORKSHOP, take(1, [], [], [4]), TOLD), [1, 0, 1, 4])
        self.assertEqual(last(take(1, [], [], [4]), WORKSHOP, TOLD), AS_TAKEN)

    def test_no_limit(self):
        for n in (1, 2, 3, 4):
            self.assertEqual(last(take(n, [], [], list(range(n))), TOLD), [n, 0, n] + list(range(n)))

    def test_six_limits_and_four_kinds(self):
        a = list(range(-12, 12))
        told = last(take(4, a, [31, 32, 33, 34, 35, 36], [-1000, 1000, 0, 7]), TOLD)
        self.assertEqual(told, [4, 30, -12, -11, -10, -9, 31, -8, -7, -6, -5, 32, -4, -3, -2, -1, 33, 0, 1, 2, 3, 34,
                                4, 5, 6, 7, 35, 8, 9, 10, 11, 36, 4, -1000, 1000, 0, 7])

    def test_behind_limit(self):
        self.assertEqual(last(WORKSHOP, limit(-8, [0, 7]), TOLD), [2, 9, 3, 1, 5, 1, 4, 9, 0, 7, -8, 2, 2, 6])

    def test_behind_drop(self):
        self.assertEqual(last(WORKSHOP, drop(0), TOLD), [2, 3, 1, 4, 9, 2, 2, 6])
        self.assertEqual(last(WORKSHOP, drop(1), TOLD), [2, 3, 3, 1, 5, 2, 2, 6])
        self.assertEqual(last(WORKSHOP, drop(0), drop(0), TOLD), [2, 0, 2, 2, 6])

    def test_behind_aim(self):
        self.assertEqual(last(WORKSHOP, aim([-1, 0]), TOLD), [2, 6, 3, 1, 5, 1, 4, 9, 2, -1, 0])

    def test_behind_several(self):
        calls = [WORKSHOP, limit(7, [1, 1]), drop(0), aim([0, 3]), limit(8, [2, 2]), drop(1), TOLD]
        self.assertEqual(last(*calls), [2, 6, 1, 4, 9, 2, 2, 8, 2, 0, 3])

    def test_behind_refused_calls(self):
        refused = [
            (take(0, [], [], []), -1), (take(2, [1], [1], [1, 1]), -1), (take(1, [1], [1], [1001]), -1),
            (take(2, [1] * 14, [1] * 7, [1, 1]), -1), (limit(1, [1]), -1), (limit(1001, [1, 1]), -1),
            (limit(1, [1, -1001]), -1), (drop(2), -4), (drop(GREATEST), -4), (aim([1]), -1), (aim([1, 1001]), -1),
            (WHY, -5), (check([1, 1]), -1), (met([1, 1, 1, 0]), -1), (reach(2), -4),
        ]
        for call, number in refused:
            with self.subTest(call=call):
                self.assertEqual(ask(WORKSHOP, call, TOLD), [[2], [number], AS_TAKEN])
        calls = [WORKSHOP] + [call for call, _ in refused] + [TOLD]
        self.assertEqual(ask(*calls), [[2]] + [[number] for _, number in refused] + [AS_TAKEN])

    def test_behind_a_limit_refused_since_there_are_6(self):
        six = take(1, [1, 2, 3, 4, 5, 6], [6, 5, 4, 3, 2, 1], [9])
        self.assertEqual(ask(six, limit(1, [1]), TOLD),
                         [[6], [-6], [1, 12, 1, 6, 2, 5, 3, 4, 4, 3, 5, 2, 6, 1, 1, 9]])

    def test_behind_calls_that_only_ask(self):
        asking = [KIND, BEST, PRICES, WHY, CORNERS, check([0, 1, 0, 1]), met([0, 1, 0, 1]), reach(1), WHOLE, TOLD]
        for call in asking:
            self.assertEqual(last(WORKSHOP, call, TOLD), AS_TAKEN)
        self.assertEqual(last(WORKSHOP, *asking, TOLD), AS_TAKEN)

    def test_without_a_frame(self):
        self.assertEqual(ask(TOLD, take(9, [], [], []), TOLD, WORKSHOP, TOLD), [[-9], [-1], [-9], [2], AS_TAKEN])


if __name__ == "__main__":
    unittest.main()
