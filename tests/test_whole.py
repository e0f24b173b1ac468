"""whole: the best of the points within whose amounts are whole."""

import unittest

from tests.helper import KIND, WHOLE, ask, joined, take


def whole_of(n, rows, mosts, gain):
    return ask(take(n, joined(rows), mosts, gain), WHOLE)[1]


class Whole(unittest.TestCase):
    def test_where_the_best_is_whole(self):
        self.assertEqual(whole_of(2, [[1, 1], [1, 3], [1, 0]], [4, 6, 3], [4, 5]), [0, 2, 17, 1, 4, 3, 1, 1, 1])

    def test_where_the_best_is_not_whole(self):
        # The best is (3, 3/2); neither of the points beside it is the one.
        self.assertEqual(whole_of(2, [[6, 4], [1, 2]], [24, 6], [5, 4]), [0, 2, 20, 1, 4, 4, 1, 0, 1])
        self.assertEqual(whole_of(1, [[3]], [8], [1]), [0, 2, 2, 1, 2, 2, 1])
        self.assertEqual(whole_of(1, [[3], [-3]], [8, -4], [-1]), [0, 2, -2, 1, 2, 2, 1])

    def test_the_first_of_several(self):
        self.assertEqual(whole_of(2, [[1, 1]], [4], [1, 1]), [0, 2, 4, 1, 4, 0, 1, 4, 1])
        self.assertEqual(whole_of(2, [[1, 1]], [4], [0, 0]), [0, 2, 0, 1, 4, 0, 1, 0, 1])
        self.assertEqual(whole_of(2, [[2, 2], [0, 1]], [7, 2], [1, 1]), [0, 2, 3, 1, 4, 1, 1, 2, 1])
        self.assertEqual(whole_of(3, [[1, 0, 0], [0, 1, 1], [0, -2, -2]], [2, 3, -3], [1, 0, 0]),
                         [0, 2, 2, 1, 6, 2, 1, 0, 1, 2, 1])

    def test_the_first_of_several_between_the_corners(self):
        # From (1/2, 5/2) to (5/2, 1/2): the first whole one is (1, 2).
        self.assertEqual(whole_of(2, [[1, 1], [-1, -1], [-2, 0], [2, 0]], [3, -3, -1, 5], [1, 1]),
                         [0, 2, 3, 1, 4, 1, 1, 2, 1])

    def test_got_below_0(self):
        self.assertEqual(whole_of(2, [[1, 1], [-2, -2]], [5, -3], [-2, -3]), [0, 2, -4, 1, 4, 2, 1, 0, 1])
        self.assertEqual(whole_of(2, [[1, 1], [-2, -2]], [5, -3], [-3, -2]), [0, 2, -4, 1, 4, 0, 1, 2, 1])

    def test_a_gain_of_0_for_the_last_kind(self):
        self.assertEqual(whole_of(2, [[1, 0], [0, 1], [-1, -1]], [2, 3, -4], [1, 0]), [0, 2, 2, 1, 4, 2, 1, 2, 1])

    def test_just_8(self):
        self.assertEqual(whole_of(1, [[1]], [8], [1]), [0, 2, 8, 1, 2, 8, 1])
        self.assertEqual(whole_of(1, [[125]], [1000], [1000]), [0, 2, 8000, 1, 2, 8, 1])
        self.assertEqual(whole_of(2, [[1, 0], [0, 1]], [8, 8], [1, 1]), [0, 2, 16, 1, 4, 8, 1, 8, 1])
        boxes = [[1, 0, 0, 0], [0, 1, 0, 0], [0, 0, 1, 0], [0, 0, 0, 1]]
        self.assertEqual(whole_of(4, boxes, [8] * 4, [1, 2, 3, 4]), [0, 2, 80, 1, 8] + [8, 1] * 4)
        self.assertEqual(whole_of(4, boxes, [8] * 4, [1, -2, 0, 4]), [0, 2, 40, 1, 8, 8, 1, 0, 1, 0, 1, 8, 1])

    def test_more_than_8(self):
        self.assertEqual(whole_of(1, [[1]], [9], [1]), [-6])
        self.assertEqual(whole_of(1, [[2]], [17], [1]), [-6])
        self.assertEqual(whole_of(1, [[124]], [1000], [-1]), [-6])
        for kind in range(4):
            rows = [[1 if one == other else 0 for other in range(4)] for one in range(4)]
            mosts = [9 if one == kind else 1 for one in range(4)]
            self.assertEqual(whole_of(4, rows, mosts, [1] * 4), [-6])

    def test_more_than_8_only_at_a_corner_that_is_not_the_best(self):
        self.assertEqual(whole_of(2, [[1, 2]], [9], [-1, 5]), [-6])
        self.assertEqual(whole_of(2, [[1, 2]], [8], [-1, 5]), [0, 2, 20, 1, 4, 0, 1, 4, 1])

    def test_no_end(self):
        for n in (1, 2, 3, 4):
            for gain in (-1, 0, 1):
                self.assertEqual(whole_of(n, [], [], [gain] * n), [-6])
        self.assertEqual(whole_of(2, [[1, 0]], [3], [1, -1]), [-6])
        self.assertEqual(whole_of(2, [[1, -1], [-1, 1]], [0, 0], [1, -1]), [-6])

    def test_no_whole_point(self):
        self.assertEqual(whole_of(1, [[3], [-3]], [2, -1], [1]), [-5])
        self.assertEqual(whole_of(2, [[2, 2], [-2, -2]], [3, -3], [1, 1]), [-5])
        self.assertEqual(whole_of(2, [[1, 0], [0, 3], [0, -3]], [1, 2, -1], [1, 1]), [-5])
        self.assertEqual(ask(take(1, [3, -3], [2, -1], [1]), KIND, WHOLE), [[2], [1], [-5]])

    def test_nothing_is_within(self):
        self.assertEqual(whole_of(1, [[1]], [-1], [1]), [-5])
        self.assertEqual(whole_of(1, [[1], [-1]], [20, -21], [1]), [-5])

    def test_minus_5_where_nothing_is_within_comes_ahead_of_minus_6(self):
        self.assertEqual(whole_of(2, [[1, 0]], [-1], [0, 1]), [-5])
        self.assertEqual(whole_of(3, [[0, 0, 0]], [-1], [1, 1, 1]), [-5])

    def test_minus_6_comes_ahead_of_minus_5_where_there_is_no_such_point(self):
        self.assertEqual(whole_of(2, [[3, 0], [-3, 0]], [2, -1], [1, 1]), [-6])
        self.assertEqual(whole_of(2, [[3, 0], [-3, 0], [0, 1]], [2, -1, 9], [1, 1]), [-6])
        self.assertEqual(whole_of(2, [[3, 0], [-3, 0], [0, 1]], [2, -1, 8], [1, 1]), [-5])
        self.assertEqual(whole_of(1, [[10], [-10]], [89, -81], [1]), [-6])

    def test_numbers_of_a_thousand(self):
        self.assertEqual(whole_of(2, [[1000, 999], [-1000, 1000], [1000, -1000]], [1000, 0, 0], [1, 1]),
                         [0, 2, 0, 1, 4, 0, 1, 0, 1])
        self.assertEqual(whole_of(2, [[500, 333]], [1000], [1000, 667]), [0, 2, 2001, 1, 4, 0, 1, 3, 1])

    def test_six_limits_and_four_kinds(self):
        rows = [[1, 1, 1, 1], [2, 3, 1, 1], [1, 0, 2, 1], [0, 1, 0, 2], [-1, 0, 0, 0], [0, -2, 0, 0]]
        self.assertEqual(whole_of(4, rows, [5, 9, 6, 5, -1, -1], [3, 4, 2, 1]),
                         [0, 2, 14, 1, 8, 2, 1, 1, 1, 2, 1, 0, 1])


if __name__ == "__main__":
    unittest.main()
