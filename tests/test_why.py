"""why: the way where there is no end, the proof where nothing is within, by frames that can be seen by eye."""

import unittest

from tests.helper import KIND, WHY, aim, ask, joined, limit, sum_and_point, take, weighed


def why_of(n, rows, mosts, gain):
    return ask(take(n, joined(rows), mosts, gain), WHY)[1]


class Way(unittest.TestCase):
    def test_no_limit(self):
        self.assertEqual(why_of(1, [], [], [1]), [2, 2, 1, 1, 2, 1, 1])
        self.assertEqual(why_of(1, [], [], [1000]), [2, 2, 1000, 1, 2, 1, 1])
        self.assertEqual(why_of(2, [], [], [2, 1]), [2, 2, 2, 1, 4, 1, 1, 0, 1])
        self.assertEqual(why_of(2, [], [], [-3, 1]), [2, 2, 1, 1, 4, 0, 1, 1, 1])

    def test_the_first_of_several(self):
        self.assertEqual(why_of(2, [], [], [1, 1]), [2, 2, 1, 1, 4, 0, 1, 1, 1])
        self.assertEqual(why_of(4, [], [], [3, 3, 3, 2]), [2, 2, 3, 1, 8, 0, 1, 0, 1, 1, 1, 0, 1])
        self.assertEqual(why_of(3, [[1, 1, -1]], [4], [1, 1, 0]), [2, 2, 1, 2, 6, 0, 1, 1, 2, 1, 2])

    def test_added_at_most_1(self):
        self.assertEqual(why_of(2, [[1, -1]], [1], [1, 0]), [2, 2, 1, 2, 4, 1, 2, 1, 2])
        self.assertEqual(why_of(2, [[1, -1]], [1], [3, -1]), [2, 2, 1, 1, 4, 1, 2, 1, 2])
        self.assertEqual(why_of(2, [[1000, -999]], [0], [1, 0]), [2, 2, 999, 1999, 4, 999, 1999, 1000, 1999])

    def test_mosts_do_not_count(self):
        for most in (-1000, -2, 0, 7, 1000):
            self.assertEqual(why_of(2, [[2, -1]], [most], [1, 0]), [2, 2, 1, 3, 4, 1, 3, 2, 3])

    def test_several_limits(self):
        self.assertEqual(why_of(2, [[1, -2], [-2, 1]], [0, 0], [1, -1]), [2, 2, 1, 3, 4, 2, 3, 1, 3])
        self.assertEqual(why_of(3, [[1, -1, 0], [0, 1, -1]], [5, 5], [1, 0, 0]), [2, 2, 1, 3, 6, 1, 3, 1, 3, 1, 3])

    def test_six_limits_and_four_kinds(self):
        rows = [[1, 0, 0, -1], [0, 1, 0, -1], [0, 0, 1, -1], [1, 1, 0, -1], [1, 1, 1, -2], [-1, 0, 0, 0]]
        self.assertEqual(why_of(4, rows, [1] * 6, [4, 0, 0, 0]), [2, 2, 2, 1, 8, 1, 2, 0, 1, 0, 1, 1, 2])


class Proof(unittest.TestCase):
    def test_one_limit(self):
        self.assertEqual(why_of(1, [[1]], [-1], [0]), [0, 2, 1, 1, 2, 1, 1])
        self.assertEqual(why_of(1, [[0]], [-5], [3]), [0, 2, 5, 1, 2, 1, 1])
        self.assertEqual(why_of(2, [[0, 0]], [-1000], [-1, 1]), [0, 2, 1000, 1, 2, 1, 1])

    def test_two_limits_against_one_another(self):
        self.assertEqual(why_of(1, [[1], [-1]], [2, -3], [1]), [0, 2, 1, 2, 4, 1, 2, 1, 2])
        self.assertEqual(why_of(1, [[2], [-1]], [2, -3], [1]), [0, 2, 4, 3, 4, 1, 3, 2, 3])
        self.assertEqual(why_of(1, [[1000], [-999]], [999, -999], [1]), [0, 2, 999, 1999, 4, 999, 1999, 1000, 1999])

    def test_a_limit_that_is_not_needed(self):
        self.assertEqual(why_of(1, [[1], [1], [-1]], [5, 2, -3], [1]), [0, 2, 1, 2, 6, 0, 1, 1, 2, 1, 2])

    def test_the_first_of_several(self):
        self.assertEqual(why_of(1, [[1], [1]], [-1, -1], [1]), [0, 2, 1, 1, 4, 0, 1, 1, 1])
        self.assertEqual(why_of(1, [[1], [1], [0]], [-2, -2, -1], [1]), [0, 2, 2, 1, 6, 0, 1, 1, 1, 0, 1])

    def test_three_limits(self):
        self.assertEqual(why_of(2, [[1, 1], [-1, 0], [0, -1]], [3, -2, -2], [1, 1]),
                         [0, 2, 1, 3, 6, 1, 3, 1, 3, 1, 3])

    def test_also_where_a_way_would_be(self):
        self.assertEqual(why_of(2, [[1, 0]], [-1], [0, 1]), [0, 2, 1, 1, 2, 1, 1])

    def test_the_gain_does_not_count(self):
        for gain in ([0, 0], [1, 0], [-1, 5], [1000, 1000]):
            self.assertEqual(why_of(2, [[1, 1], [-1, -1]], [1, -2], gain), [0, 2, 1, 2, 4, 1, 2, 1, 2])

    def test_six_limits(self):
        rows = [[1, 0, 0, 0], [0, 1, 0, 0], [0, 0, 1, 0], [0, 0, 0, 1], [-1, -1, -1, -1], [1, 1, 1, 1]]
        self.assertEqual(why_of(4, rows, [1, 1, 1, 1, -5, 9], [1] * 4),
                         [0, 2, 1, 5, 12, 1, 5, 1, 5, 1, 5, 1, 5, 1, 5, 0, 1])


class Why(unittest.TestCase):
    def test_refused_where_the_kind_is_1(self):
        self.assertEqual(why_of(1, [], [], [0]), [-5])
        self.assertEqual(why_of(1, [], [], [-1]), [-5])
        self.assertEqual(why_of(1, [[1]], [0], [1]), [-5])
        self.assertEqual(why_of(2, [[3, 1], [1, 3]], [4, 5], [1, 1]), [-5])
        self.assertEqual(why_of(2, [[1, -1]], [0], [1, -1]), [-5])

    def test_it_goes_with_the_frame(self):
        self.assertEqual(
            ask(take(2, [], [], [1, 0]), WHY, limit(4, [1, 1]), WHY, limit(-5, [-1, 0]), WHY, aim([0, 0]), WHY),
            [[0], [2, 2, 1, 1, 4, 1, 1, 0, 1], [0], [-5], [1],
             [0, 2, 1, 2, 4, 1, 2, 1, 2], [0], [0, 2, 1, 2, 4, 1, 2, 1, 2]])

    def test_what_the_document_says_of_a_way(self):
        rows, gain = [[1, -3, 2], [-4, 1, 1]], [2, 1, -1]
        call = take(3, joined(rows), [7, 9], gain)
        self.assertEqual(ask(call, KIND), [[2], [2]])
        got, way = sum_and_point(ask(call, WHY)[1])
        self.assertGreater(got, 0)
        self.assertEqual(weighed(gain, way), got)
        self.assertTrue(all(amount >= 0 for amount in way))
        self.assertLessEqual(sum(way), 1)
        self.assertTrue(all(weighed(numbers, way) <= 0 for numbers in rows))

    def test_what_the_document_says_of_a_proof(self):
        rows, mosts = [[3, 2], [-2, -5], [1, -4]], [5, -13, 2]
        call = take(2, joined(rows), mosts, [1, 1])
        self.assertEqual(ask(call, KIND), [[3], [0]])
        other_sign, proof = sum_and_point(ask(call, WHY)[1])
        self.assertGreater(other_sign, 0)
        self.assertEqual(weighed(mosts, proof), -other_sign)
        self.assertTrue(all(part >= 0 for part in proof))
        self.assertLessEqual(sum(proof), 1)
        for kind in range(2):
            self.assertGreaterEqual(weighed([numbers[kind] for numbers in rows], proof), 0)


if __name__ == "__main__":
    unittest.main()
