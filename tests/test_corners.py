"""corners: each once, in order, and nothing else, by frames that can be seen by eye."""

import unittest
from fractions import Fraction
from itertools import product

from tests.helper import CORNERS, ask, fractions_of, joined, lists_of, second_corners, take


def told_corners(n, rows, mosts):
    return ask(take(n, joined(rows), mosts, [1] * n), CORNERS)[1]


def corners_of(n, rows, mosts):
    told = told_corners(n, rows, mosts)
    points = [tuple(fractions_of(one)) for one in lists_of(told)]
    if told[0] != len(points):
        raise ValueError("%r tells another count than it has lists" % (told,))
    return points


class Corners(unittest.TestCase):
    def test_none(self):
        self.assertEqual(told_corners(1, [[1]], [-1]), [0])
        self.assertEqual(told_corners(2, [[1, 1], [-1, -1]], [1, -2]), [0])
        self.assertEqual(told_corners(4, [[0, 0, 0, 0]], [-1]), [0])

    def test_no_limit(self):
        for n in (1, 2, 3, 4):
            self.assertEqual(told_corners(n, [], []), [1, 2 * n] + [0, 1] * n)

    def test_one_with_limits(self):
        self.assertEqual(told_corners(2, [[-2, 0], [0, -3]], [-5, -1]), [1, 4, 5, 2, 1, 3])
        self.assertEqual(told_corners(2, [[1, 0], [-1, 0], [0, 1], [0, -1]], [3, -3, 4, -4]), [1, 4, 3, 1, 4, 1])
        self.assertEqual(told_corners(2, [[1, 1]], [0]), [1, 4, 0, 1, 0, 1])

    def test_one_kind(self):
        self.assertEqual(told_corners(1, [[1]], [5]), [2, 2, 0, 1, 2, 5, 1])
        self.assertEqual(told_corners(1, [[3], [-2]], [7, -1]), [2, 2, 1, 2, 2, 7, 3])
        self.assertEqual(told_corners(1, [[-2]], [-1]), [1, 2, 1, 2])
        self.assertEqual(told_corners(1, [[1], [-1]], [4, -4]), [1, 2, 4, 1])

    def test_several_in_order(self):
        self.assertEqual(told_corners(2, [[1, 0], [0, 1]], [2, 3]),
                         [4, 4, 0, 1, 0, 1, 4, 0, 1, 3, 1, 4, 2, 1, 0, 1, 4, 2, 1, 3, 1])
        self.assertEqual(told_corners(2, [[3, 1], [1, 3]], [4, 5]),
                         [4, 4, 0, 1, 0, 1, 4, 0, 1, 5, 3, 4, 7, 8, 11, 8, 4, 4, 3, 0, 1])

    def test_in_order_by_fractions(self):
        # 1/3 is less than 1/2, and 2/3 less than 3/4, though not by their uppers or lowers alone.
        self.assertEqual(corners_of(1, [[2], [-3]], [1, -1]), [(Fraction(1, 3),), (Fraction(1, 2),)])
        self.assertEqual(corners_of(1, [[4], [-3]], [3, -2]), [(Fraction(2, 3),), (Fraction(3, 4),)])
        self.assertEqual(corners_of(2, [[1, 0], [-1, 0], [0, 2], [0, -3]], [1, -1, 1, -1]),
                         [(1, Fraction(1, 3)), (1, Fraction(1, 2))])

    def test_each_once_where_more_limits_than_kinds_are_met(self):
        rows, mosts = [[1, 0], [0, 1], [1, 1], [2, 1], [1, 2], [3, 3]], [1, 1, 2, 3, 3, 6]
        self.assertEqual(corners_of(2, rows, mosts), [(0, 0), (0, 1), (1, 0), (1, 1)])
        self.assertEqual(corners_of(2, [[1, 1], [2, 2], [1, 0], [0, 1]], [4, 8, 4, 4]), [(0, 0), (0, 4), (4, 0)])
        self.assertEqual(corners_of(3, [[1, 1, 1], [1, 2, 3], [3, 2, 1]], [0, 0, 0]), [(0, 0, 0)])

    def test_a_limit_met_only_between_corners_or_nowhere_brings_none(self):
        square = [(0, 0), (0, 2), (2, 0), (2, 2)]
        self.assertEqual(corners_of(2, [[1, 0], [0, 1], [1, 1]], [2, 2, 9]), square)
        self.assertEqual(corners_of(2, [[1, 0], [0, 1], [1, 0]], [2, 2, 2]), square)
        self.assertEqual(corners_of(2, [[1, 0], [0, 1], [0, 0]], [2, 2, 0]), square)

    def test_without_end(self):
        self.assertEqual(corners_of(2, [[-1, -1]], [-3]), [(0, 3), (3, 0)])
        self.assertEqual(corners_of(2, [[1, -1]], [1]), [(0, 0), (1, 0)])
        self.assertEqual(corners_of(3, [[-1, -1, -1]], [-2]), [(0, 0, 2), (0, 2, 0), (2, 0, 0)])

    def test_flat(self):
        self.assertEqual(corners_of(3, [[1, 1, 1], [-1, -1, -1]], [1, -1]), [(0, 0, 1), (0, 1, 0), (1, 0, 0)])

    def test_a_box_of_four_kinds(self):
        rows = [[1, 0, 0, 0], [0, 2, 0, 0], [0, 0, 3, 0], [0, 0, 0, 4]]
        sides = [(0, 5), (0, Fraction(5, 2)), (0, Fraction(5, 3)), (0, Fraction(5, 4))]
        self.assertEqual(corners_of(4, rows, [5, 5, 5, 5]), list(product(*sides)))

    def test_many(self):
        rows = [[0, 4, -4, 17], [-1, -2, 14, 14], [15, 0, 17, 7], [-6, 10, -4, 2], [19, -6, 6, 11], [13, 5, -2, 3]]
        mosts = [25, 29, 38, 8, 34, 20]
        points = corners_of(4, rows, mosts)
        self.assertEqual(len(points), 27)
        self.assertEqual(points, second_corners(4, list(zip(rows, mosts))))

    def test_the_gain_does_not_count(self):
        first = ask(take(2, [3, 1, 1, 3], [4, 5], [0, 0]), CORNERS)[1]
        for gain in ([1, 1], [-1000, 1000], [7, -2]):
            self.assertEqual(ask(take(2, [3, 1, 1, 3], [4, 5], gain), CORNERS)[1], first)

    def test_numbers_of_a_thousand(self):
        self.assertEqual(corners_of(2, [[1000, 999], [999, 1000]], [1000, 1000]),
                         [(0, 0), (0, 1), (Fraction(1000, 1999), Fraction(1000, 1999)), (1, 0)])


if __name__ == "__main__":
    unittest.main()
