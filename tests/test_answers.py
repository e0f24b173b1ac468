"""kind, best and prices, by frames whose answers can be seen by eye."""

import unittest

from tests.helper import BEST, KIND, PRICES, ask, joined, limit, take


def kind_of(n, rows, mosts, gain):
    return ask(take(n, joined(rows), mosts, gain), KIND)[1][0]


def best_of(n, rows, mosts, gain):
    return ask(take(n, joined(rows), mosts, gain), BEST)[1]


def prices_of(n, rows, mosts, gain):
    return ask(take(n, joined(rows), mosts, gain), PRICES)[1]


class Kind(unittest.TestCase):
    def test_0_nothing_is_within(self):
        self.assertEqual(kind_of(1, [[1]], [-1], [0]), 0)
        self.assertEqual(kind_of(1, [[1], [-1]], [2, -3], [1]), 0)
        self.assertEqual(kind_of(2, [[1, 1], [-1, 0], [0, -1]], [3, -2, -2], [1, 1]), 0)
        self.assertEqual(kind_of(4, [[1, 1, 1, 1], [-1, -1, -1, -1]], [1, -2], [1, 1, 1, 1]), 0)

    def test_0_by_a_limit_without_kinds(self):
        self.assertEqual(kind_of(2, [[0, 0]], [-1], [1, 1]), 0)
        self.assertEqual(kind_of(2, [[0, 0]], [0], [-1, -1]), 1)
        self.assertEqual(kind_of(2, [[0, 0]], [0], [1, 1]), 2)

    def test_0_with_limits_that_come_out_of_one_another(self):
        self.assertEqual(kind_of(1, [[1], [2], [3]], [-1, -2, -3], [1]), 0)
        self.assertEqual(kind_of(2, [[1, 2], [2, 4], [-1, -2]], [3, 6, -4], [1, 0]), 0)

    def test_0_just_beside_1(self):
        self.assertEqual(kind_of(1, [[3], [-3]], [1, -1], [1]), 1)
        self.assertEqual(kind_of(1, [[1000], [-1000]], [999, -1000], [1]), 0)
        self.assertEqual(kind_of(1, [[1000], [-999]], [999, -999], [1]), 0)
        self.assertEqual(kind_of(1, [[999], [-1000]], [999, -1000], [1]), 1)

    def test_0_where_the_amounts_would_be_below_0(self):
        self.assertEqual(kind_of(2, [[1, 0], [-1, 0]], [-1, 1], [0, 0]), 0)
        self.assertEqual(kind_of(2, [[1, 1], [1, -1], [-1, 1]], [-2, 0, 0], [0, 0]), 0)

    def test_0_also_where_a_way_without_end_would_be(self):
        self.assertEqual(kind_of(2, [[1, 0]], [-1], [0, 1]), 0)
        self.assertEqual(kind_of(2, [[1, 0], [-1, 0]], [1, -2], [0, 1000]), 0)
        self.assertEqual(kind_of(3, [[0, 0, 0]], [-1], [1, 1, 1]), 0)

    def test_1_with_no_limit(self):
        for n in (1, 2, 3, 4):
            self.assertEqual(kind_of(n, [], [], [0] * n), 1)
            self.assertEqual(kind_of(n, [], [], [-1] * n), 1)

    def test_1_though_what_is_within_has_no_end(self):
        self.assertEqual(kind_of(2, [[1, -1]], [0], [1, -1]), 1)
        self.assertEqual(kind_of(2, [[-1, -1]], [-3], [-1, 0]), 1)
        self.assertEqual(kind_of(2, [[1, -1]], [0], [0, 0]), 1)

    def test_1_with_a_most_below_0(self):
        self.assertEqual(kind_of(1, [[-1]], [-2], [-3]), 1)
        self.assertEqual(kind_of(2, [[-1, -1], [1, 2]], [-2, 9], [3, 1]), 1)

    def test_1_with_limits_that_come_out_of_one_another(self):
        self.assertEqual(kind_of(2, [[1, 1], [2, 2], [3, 3]], [4, 8, 12], [1, 1]), 1)
        self.assertEqual(kind_of(2, [[1, 1], [1, 1], [2, 2]], [4, 5, 9], [1, 1]), 1)

    def test_1_with_limits_met_at_the_same_point(self):
        self.assertEqual(kind_of(2, [[1, 0], [0, 1], [1, 1], [2, 1], [1, 2]], [1, 1, 2, 3, 3], [1, 1]), 1)
        self.assertEqual(kind_of(2, [[1, 0], [0, 1], [1, 1]], [0, 0, 0], [5, 5]), 1)

    def test_1_with_a_single_point_within(self):
        self.assertEqual(kind_of(2, [[1, 0], [-1, 0], [0, 1], [0, -1]], [3, -3, 4, -4], [1, 1]), 1)

    def test_2_with_no_limit(self):
        for n in (1, 2, 3, 4):
            for kind in range(n):
                gain = [-1] * n
                gain[kind] = 1
                self.assertEqual(kind_of(n, [], [], gain), 2)

    def test_2_with_limits(self):
        self.assertEqual(kind_of(2, [[1, -1]], [1], [1, 0]), 2)
        self.assertEqual(kind_of(2, [[1, -1]], [1], [2, -1]), 2)
        self.assertEqual(kind_of(2, [[1, -1]], [1], [1, -1]), 1)
        self.assertEqual(kind_of(4, [[1, 1, 1, -1]], [5], [0, 0, 0, 1]), 2)

    def test_2_with_a_most_below_0(self):
        self.assertEqual(kind_of(1, [[-1]], [-2], [3]), 2)
        self.assertEqual(kind_of(2, [[1, -1]], [-2], [0, 1]), 2)

    def test_2_with_limits_that_come_out_of_one_another(self):
        self.assertEqual(kind_of(2, [[1, -1], [2, -2], [3, -3]], [1, 2, 3], [1, 1]), 2)

    def test_2_with_limits_met_at_the_same_point(self):
        self.assertEqual(kind_of(2, [[1, -1], [1, -2], [0, -1]], [0, 0, 0], [1, 1]), 2)

    def test_2_along_a_way_of_several_kinds(self):
        self.assertEqual(kind_of(2, [[1, -2], [-2, 1]], [0, 0], [1, -1]), 2)
        self.assertEqual(kind_of(2, [[1, -1], [-1, 1]], [0, 0], [1, -1]), 1)
        self.assertEqual(kind_of(2, [[2, -1], [-1, 2]], [0, 0], [1, 1]), 1)


class Best(unittest.TestCase):
    def test_whole_amounts(self):
        self.assertEqual(best_of(2, [[1, 1], [1, 3], [1, 0]], [4, 6, 3], [4, 5]),
                         [0, 2, 17, 1, 4, 3, 1, 1, 1])

    def test_amounts_that_are_no_whole_numbers(self):
        self.assertEqual(best_of(1, [[3]], [7], [2]), [0, 2, 14, 3, 2, 7, 3])
        self.assertEqual(best_of(2, [[3, 1], [1, 3]], [4, 5], [1, 1]), [0, 2, 9, 4, 4, 7, 8, 11, 8])

    def test_in_lowest_form(self):
        self.assertEqual(best_of(1, [[6]], [4], [3]), [0, 2, 2, 1, 2, 2, 3])
        self.assertEqual(best_of(1, [[1000]], [1000], [1000]), [0, 2, 1000, 1, 2, 1, 1])
        self.assertEqual(best_of(2, [[4, 0], [0, 6]], [10, 9], [2, 2]), [0, 2, 8, 1, 4, 5, 2, 3, 2])

    def test_zero_is_told_as_0_1(self):
        self.assertEqual(best_of(2, [[7, 5]], [3], [-1, 0]), [0, 2, 0, 1, 4, 0, 1, 0, 1])
        self.assertEqual(best_of(2, [[5, 7]], [3], [-1, 5]), [0, 2, 15, 7, 4, 0, 1, 3, 7])

    def test_got_below_0(self):
        self.assertEqual(best_of(1, [[-2]], [-3], [-5]), [0, 2, -15, 2, 2, 3, 2])
        self.assertEqual(best_of(2, [[-1, -1]], [-3], [-2, -4]), [0, 2, -6, 1, 4, 3, 1, 0, 1])

    def test_no_limit(self):
        for n in (1, 2, 3, 4):
            self.assertEqual(best_of(n, [], [], [0] * n), [0, 2, 0, 1, 2 * n] + [0, 1] * n)
            self.assertEqual(best_of(n, [], [], [-1000] * n), [0, 2, 0, 1, 2 * n] + [0, 1] * n)

    def test_the_first_of_several(self):
        self.assertEqual(best_of(2, [[1, 1]], [4], [1, 1]), [0, 2, 4, 1, 4, 0, 1, 4, 1])
        self.assertEqual(best_of(2, [[1, 0], [0, 1], [1, 1]], [3, 2, 4], [1, 1]), [0, 2, 4, 1, 4, 2, 1, 2, 1])
        self.assertEqual(best_of(3, [[1, 1, 1], [0, 0, 1]], [5, 2], [3, 3, 3]),
                         [0, 2, 15, 1, 6, 0, 1, 3, 1, 2, 1])
        self.assertEqual(best_of(3, [[1, 0, 0], [0, 1, 1]], [2, 3], [1, 0, 0]), [0, 2, 2, 1, 6, 2, 1, 0, 1, 0, 1])

    def test_the_first_amount_counts_before_the_others(self):
        self.assertEqual(best_of(2, [[1, 1], [0, 1]], [1000, 999], [1, 1]), [0, 2, 1000, 1, 4, 1, 1, 999, 1])

    def test_the_first_of_several_by_fractions(self):
        # From (1/3, 1) to (1/2, 3/4): as numbers 1/3 is less, though 3 is more than 2.
        self.assertEqual(best_of(2, [[3, 2], [2, 0], [0, 1]], [3, 1, 1], [3, 2]), [0, 2, 3, 1, 4, 1, 3, 1, 1])

    def test_the_first_of_several_without_end(self):
        self.assertEqual(best_of(2, [[-1, -1]], [-3], [0, 0]), [0, 2, 0, 1, 4, 0, 1, 3, 1])
        self.assertEqual(best_of(2, [[1, -1]], [1], [1, -1]), [0, 2, 1, 1, 4, 1, 1, 0, 1])
        self.assertEqual(best_of(2, [[-1, 1]], [-2], [0, 0]), [0, 2, 0, 1, 4, 2, 1, 0, 1])

    def test_with_limits_met_at_the_same_point(self):
        self.assertEqual(best_of(2, [[1, 0], [0, 1], [1, 1], [2, 1], [1, 2]], [1, 1, 2, 3, 3], [1, 1]),
                         [0, 2, 2, 1, 4, 1, 1, 1, 1])
        self.assertEqual(best_of(2, [[1, 1], [1, -1]], [0, 0], [7, 9]), [0, 2, 0, 1, 4, 0, 1, 0, 1])

    def test_four_kinds_and_six_limits(self):
        rows = [[1, 0, 0, 0], [0, 1, 0, 0], [0, 0, 1, 0], [0, 0, 0, 1], [1, 1, 1, 1], [1, 2, 3, 4]]
        self.assertEqual(best_of(4, rows, [3, 3, 3, 3, 6, 13], [2, 3, 5, 6]),
                         [0, 2, 67, 3, 8, 8, 3, 0, 1, 3, 1, 1, 3])

    def test_the_greatest_numbers(self):
        self.assertEqual(best_of(1, [[1]], [1000], [1000]), [0, 2, 1000000, 1, 2, 1000, 1])
        self.assertEqual(best_of(1, [[-1]], [-1000], [-1000]), [0, 2, -1000000, 1, 2, 1000, 1])

    def test_refused_where_the_kind_is_not_1(self):
        self.assertEqual(best_of(1, [[1]], [-1], [0]), [-5])
        self.assertEqual(best_of(1, [[1]], [-1], [1]), [-5])
        self.assertEqual(best_of(1, [], [], [1]), [-5])
        self.assertEqual(best_of(2, [[1, -1]], [1], [1, 1]), [-5])
        self.assertEqual(best_of(2, [[1, 0]], [-1], [0, 1]), [-5])

    def test_asking_changes_nothing(self):
        calls = take(2, [3, 1, 1, 3], [4, 5], [1, 1])
        first = ask(calls, KIND, BEST, PRICES)
        self.assertEqual(ask(calls, BEST, PRICES, KIND, BEST, PRICES)[3:], first[1:])
        self.assertEqual(ask(calls, BEST, PRICES, limit(1, [1, 1]))[-1], [2])


class Prices(unittest.TestCase):
    def test_they_cost_what_is_got(self):
        self.assertEqual(prices_of(2, [[3, 1], [1, 3]], [4, 5], [1, 1]), [0, 2, 9, 4, 4, 1, 4, 1, 4])

    def test_a_limit_that_is_not_met_costs_nothing(self):
        self.assertEqual(prices_of(2, [[1, 1], [1, 3], [1, 0]], [4, 6, 5], [4, 6]),
                         [0, 2, 18, 1, 6, 3, 1, 1, 1, 0, 1])
        self.assertEqual(prices_of(2, [[1, 1], [1, 1]], [4, 5], [2, 3]), [0, 2, 12, 1, 4, 3, 1, 0, 1])
        self.assertEqual(prices_of(2, [[1, 1], [1, 1]], [5, 4], [2, 3]), [0, 2, 12, 1, 4, 0, 1, 3, 1])

    def test_the_first_of_several(self):
        self.assertEqual(prices_of(1, [[1], [1]], [4, 4], [1]), [0, 2, 4, 1, 4, 0, 1, 1, 1])
        self.assertEqual(prices_of(1, [[1], [2], [3]], [1, 2, 3], [6]), [0, 2, 6, 1, 6, 0, 1, 0, 1, 2, 1])
        self.assertEqual(prices_of(1, [[1], [1], [1]], [0, 0, 0], [5]), [0, 2, 0, 1, 6, 0, 1, 0, 1, 5, 1])

    def test_the_first_of_several_where_limits_meet_at_the_best(self):
        # All three are met at (1, 1). Without the first, the second and third have to cover both kinds.
        self.assertEqual(prices_of(2, [[1, 1], [1, 0], [0, 1]], [2, 1, 1], [3, 5]),
                         [0, 2, 8, 1, 6, 0, 1, 3, 1, 5, 1])
        self.assertEqual(prices_of(2, [[1, 0], [0, 1], [1, 1]], [1, 1, 2], [3, 5]),
                         [0, 2, 8, 1, 6, 0, 1, 2, 1, 3, 1])
        self.assertEqual(prices_of(2, [[1, 1], [1, 3], [1, 0]], [4, 6, 3], [4, 5]),
                         [0, 2, 17, 1, 6, 0, 1, 5, 3, 7, 3])

    def test_no_price_where_nothing_is_gained(self):
        self.assertEqual(prices_of(2, [[1, 1], [2, 1]], [4, 5], [0, -1]), [0, 2, 0, 1, 4, 0, 1, 0, 1])
        self.assertEqual(prices_of(2, [[1, 1], [2, 1]], [0, 0], [0, 0]), [0, 2, 0, 1, 4, 0, 1, 0, 1])

    def test_a_most_below_0(self):
        self.assertEqual(prices_of(1, [[-1]], [-2], [-3]), [0, 2, -6, 1, 2, 3, 1])
        self.assertEqual(prices_of(1, [[-2]], [-3], [-5]), [0, 2, -15, 2, 2, 5, 2])

    def test_no_limit(self):
        for n in (1, 2, 3, 4):
            self.assertEqual(prices_of(n, [], [], [0] * n), [0, 2, 0, 1, 0])
            self.assertEqual(prices_of(n, [], [], [-1] * n), [0, 2, 0, 1, 0])

    def test_in_lowest_form(self):
        self.assertEqual(prices_of(1, [[6]], [4], [3]), [0, 2, 2, 1, 2, 1, 2])
        self.assertEqual(prices_of(1, [[4]], [6], [2]), [0, 2, 3, 1, 2, 1, 2])

    def test_refused_where_the_kind_is_not_1(self):
        self.assertEqual(prices_of(1, [[1]], [-1], [0]), [-5])
        self.assertEqual(prices_of(1, [[1]], [-1], [1]), [-5])
        self.assertEqual(prices_of(1, [], [], [1]), [-5])
        self.assertEqual(prices_of(2, [[1, -1]], [1], [1, 1]), [-5])
        self.assertEqual(prices_of(2, [[1, 0]], [-1], [0, 1]), [-5])


if __name__ == "__main__":
    unittest.main()
