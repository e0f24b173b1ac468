"""range: the least and the greatest amount of a kind within."""

import unittest

from tests.helper import GREATEST, ask, joined, last, reach, take


def range_of(n, rows, mosts, kind):
    return last(take(n, joined(rows), mosts, [1] * n), reach(kind))


class Range(unittest.TestCase):
    def test_with_an_end(self):
        self.assertEqual(range_of(1, [[1]], [5], 0), [0, 2, 0, 1, 2, 5, 1])
        self.assertEqual(range_of(1, [[4], [-6]], [10, -4], 0), [0, 2, 2, 3, 2, 5, 2])
        self.assertEqual(range_of(2, [[3, 1], [1, 3]], [4, 5], 0), [0, 2, 0, 1, 2, 4, 3])
        self.assertEqual(range_of(2, [[3, 1], [1, 3]], [4, 5], 1), [0, 2, 0, 1, 2, 5, 3])

    def test_the_least_above_0(self):
        # x + y at least 3, and y at most 2.
        self.assertEqual(range_of(2, [[-1, -1], [0, 1], [1, 0]], [-3, 2, 7], 0), [0, 2, 1, 1, 2, 7, 1])
        self.assertEqual(range_of(2, [[-1, -1], [0, 1], [1, 0]], [-3, 2, 7], 1), [0, 2, 0, 1, 2, 2, 1])

    def test_a_single_amount(self):
        self.assertEqual(range_of(1, [[2], [-2]], [3, -3], 0), [0, 2, 3, 2, 2, 3, 2])
        self.assertEqual(range_of(2, [[1, 1]], [0], 1), [0, 2, 0, 1, 2, 0, 1])

    def test_without_an_end(self):
        for n in (1, 2, 3, 4):
            for kind in range(n):
                self.assertEqual(range_of(n, [], [], kind), [1, 2, 0, 1])
        self.assertEqual(range_of(1, [[-2]], [-3], 0), [1, 2, 3, 2])
        self.assertEqual(range_of(2, [[1, -1]], [1], 0), [1, 2, 0, 1])
        self.assertEqual(range_of(2, [[1, -1]], [-1], 1), [1, 2, 1, 1])

    def test_one_kind_with_an_end_beside_one_without(self):
        self.assertEqual(range_of(2, [[1, 0]], [4], 0), [0, 2, 0, 1, 2, 4, 1])
        self.assertEqual(range_of(2, [[1, 0]], [4], 1), [1, 2, 0, 1])
        self.assertEqual(range_of(2, [[3, -1], [0, 1]], [1, 7], 0), [0, 2, 0, 1, 2, 8, 3])

    def test_the_last_of_four_kinds_under_six_limits(self):
        rows = [[1, 0, 0, 0], [0, 1, 0, 0], [0, 0, 1, 0], [-1, -1, -1, 2], [1, 1, 1, -3], [1, 1, 1, 1]]
        # With s for the first three together: from (s + 1) / 3 to s / 2, and s from 2 to 9.
        self.assertEqual(range_of(4, rows, [2, 3, 4, 0, -1, 90], 3), [0, 2, 1, 1, 2, 9, 2])

    def test_the_gain_does_not_count(self):
        for gain in ([0, 0], [1, 1], [-1, 5], [1000, -1000]):
            call = take(2, [3, 1, 1, 3], [4, 5], gain)
            self.assertEqual(ask(call, reach(0), reach(1)), [[2], [0, 2, 0, 1, 2, 4, 3], [0, 2, 0, 1, 2, 5, 3]])

    def test_numbers_of_a_thousand(self):
        self.assertEqual(range_of(1, [[1], [-1000]], [1000, -1], 0), [0, 2, 1, 1000, 2, 1000, 1])
        self.assertEqual(range_of(2, [[1000, -1000], [-999, 1000]], [1000, 1000], 0), [0, 2, 0, 1, 2, 2000, 1])

    def test_no_such_kind(self):
        for n in (1, 2, 3, 4):
            for kind in (n, n + 1, 4, 5, 1000, GREATEST):
                self.assertEqual(range_of(n, [[1] * n], [1], kind), [-4])

    def test_nothing_is_within(self):
        self.assertEqual(range_of(1, [[1]], [-1], 0), [-5])
        self.assertEqual(range_of(2, [[1, 0]], [-1], 1), [-5])
        self.assertEqual(range_of(4, [[1] * 4, [-1] * 4], [1, -2], 3), [-5])

    def test_minus_4_comes_ahead_of_minus_5(self):
        self.assertEqual(range_of(1, [[1]], [-1], 1), [-4])
        self.assertEqual(range_of(2, [[1, 0]], [-1], GREATEST), [-4])

    def test_by_the_kinds_of_the_frame_that_there_is(self):
        self.assertEqual(ask(take(3, [], [], [0] * 3), reach(2), take(2, [], [], [0] * 2), reach(2), reach(1)),
                         [[0], [1, 2, 0, 1], [0], [-4], [1, 2, 0, 1]])


if __name__ == "__main__":
    unittest.main()
