"""Many small frames, held against the document's own words and against a second reckoning."""

import unittest
from fractions import Fraction

from tests.helper import (
    BEST, CORNERS, KIND, PRICES, WHOLE, WHY, ask, boxed_frames, check, ends, fractions_of, frame_call, keeps_all,
    left_of, lists_of, met, negated, not_below_zero, reach, second_corners, second_proof, second_range,
    second_reckoning, second_way, second_whole, some_frames, sum_and_point, told_fractions, told_sum_and_point,
    weighed,
)

SHAPES = [(n, count) for n in range(1, 5) for count in range(7)]


class ManyFrames(unittest.TestCase):
    def check_best(self, n, limits, gain, got, point):
        self.assertEqual(len(point), n)
        self.assertTrue(all(amount >= 0 for amount in point))
        for numbers, most in limits:
            self.assertLessEqual(weighed(numbers, point), most)
        self.assertEqual(weighed(gain, point), got)

    def check_prices(self, n, limits, gain, cost, prices):
        self.assertEqual(len(prices), len(limits))
        self.assertTrue(all(price >= 0 for price in prices))
        for kind in range(n):
            self.assertGreaterEqual(weighed([numbers[kind] for numbers, _ in limits], prices), gain[kind])
        self.assertEqual(weighed([most for _, most in limits], prices), cost)

    def check_pair(self, limits, got, point, cost, prices):
        self.assertEqual(got, cost)
        for (numbers, most), price in zip(limits, prices):
            if weighed(numbers, point) != most:
                self.assertEqual(price, 0)

    def check_way(self, n, limits, gain, got, way):
        self.assertGreater(got, 0)
        self.assertEqual(weighed(gain, way), got)
        self.assertTrue(len(way) == n and min(way) >= 0 and sum(way) <= 1)
        for numbers, _ in limits:
            self.assertLessEqual(weighed(numbers, way), 0)
        self.assertEqual((got, way), second_way(n, limits, gain))

    def check_proof(self, n, limits, other_sign, proof):
        self.assertGreater(other_sign, 0)
        self.assertEqual(weighed([most for _, most in limits], proof), -other_sign)
        self.assertTrue(len(proof) == len(limits) and min(proof) >= 0 and sum(proof) <= 1)
        for kind in range(n):
            self.assertGreaterEqual(weighed([numbers[kind] for numbers, _ in limits], proof), 0)
        self.assertEqual((other_sign, proof), second_proof(n, limits))

    def check_why(self, n, limits, gain, kind, why):
        self.assertEqual(why[0], kind)
        if kind == 2:
            self.check_way(n, limits, gain, *sum_and_point(why))
        else:
            self.check_proof(n, limits, *sum_and_point(why))

    def check_frame(self, n, limits, gain):
        kind, best, prices, why = ask(frame_call(n, limits, gain), KIND, BEST, PRICES, WHY)[1:]
        expected = second_reckoning(n, limits, gain)
        self.assertEqual(kind, [expected[0]])
        if expected[0] != 1:
            self.assertEqual((best, prices), ([-5], [-5]))
            self.check_why(n, limits, gain, expected[0], why)
            return expected[0]
        self.assertEqual(why, [-5])
        got, point = sum_and_point(best)
        cost, price = sum_and_point(prices)
        self.check_best(n, limits, gain, got, point)
        self.check_prices(n, limits, gain, cost, price)
        self.check_pair(limits, got, point, cost, price)
        self.assertEqual((got, point, price), expected[1:])
        return 1

    def check_frames(self, seed, many, size):
        seen = {0: 0, 1: 0, 2: 0}
        for n, count in SHAPES:
            for limits, gain in some_frames(seed + 10 * n + count, many, n, count, size):
                with self.subTest(n=n, limits=limits, gain=gain):
                    seen[self.check_frame(n, limits, gain)] += 1
        for kind in seen:
            self.assertGreater(seen[kind], 20, "hardly a frame of kind %d among these" % kind)

    def test_numbers_up_to_one(self):
        self.check_frames(1000, 60, 1)

    def test_numbers_up_to_two(self):
        self.check_frames(2000, 60, 2)

    def test_numbers_up_to_nine(self):
        self.check_frames(3000, 40, 9)

    def test_numbers_up_to_a_thousand(self):
        for n, count in SHAPES:
            for limits, gain in some_frames(4000 + 10 * n + count, 20, n, count, 1000):
                with self.subTest(n=n, limits=limits, gain=gain):
                    self.check_frame(n, limits, gain)

    def test_frames_of_a_workshop(self):
        # Numbers and mosts not below 0 give frames with a best, and many corners.
        for n, count in SHAPES:
            for limits, gain in some_frames(5000 + 10 * n + count, 30, n, count, 6):
                limits = [([abs(number) for number in numbers], abs(most)) for numbers, most in limits]
                with self.subTest(n=n, limits=limits, gain=gain):
                    self.check_frame(n, limits, gain)


class ManyPoints(unittest.TestCase):
    def check_corners(self, n, limits, gain):
        told = ask(frame_call(n, limits, gain), CORNERS)[1]
        points = second_corners(n, limits)
        self.assertEqual(told, [len(points)] + [number for point in points for number in told_fractions(point)])
        return points

    def check_ranges(self, n, limits, gain):
        for kind in range(n):
            answer = ask(frame_call(n, limits, gain), reach(kind))[1]
            found = second_range(n, limits, kind)
            if found is None:
                self.assertEqual(answer, [-5])
            elif found[1] is None:
                self.assertEqual(answer, [1] + told_fractions(found[:1]))
            else:
                self.assertEqual(answer, [0] + told_fractions(found[:1]) + told_fractions(found[1:]))

    def check_point(self, n, limits, gain, point):
        x = told_fractions(point)[1:]
        checked, counted = ask(frame_call(n, limits, gain), check(x), met(x))[1:]
        left = left_of(n, limits, point)
        places = [place for place in range(len(left)) if left[place] == 0]
        self.assertEqual(counted, [len(places), len(places)] + places)
        broken = [place for place in range(len(left)) if left[place] < 0]
        if broken:
            self.assertEqual(checked, [0, 1, broken[0]])
        else:
            self.assertEqual(checked, [1] + told_fractions([weighed(gain, point)]))

    def check_frame(self, n, limits, gain):
        points = self.check_corners(n, limits, gain)
        self.check_ranges(n, limits, gain)
        asked = [tuple(Fraction(kind + 1, 2) for kind in range(n)), (Fraction(-1, 3),) * n] + points[:3] + points[-2:]
        if len(points) > 1:
            asked.append(tuple((one + other) / 2 for one, other in zip(points[0], points[-1])))
            asked.append(tuple(2 * one - other for one, other in zip(points[0], points[-1])))
        for point in asked:
            self.check_point(n, limits, gain, point)

    def check_frames(self, seed, many, size):
        for n, count in SHAPES:
            for limits, gain in some_frames(seed + 10 * n + count, many, n, count, size):
                with self.subTest(n=n, limits=limits, gain=gain):
                    self.check_frame(n, limits, gain)

    def test_numbers_up_to_one(self):
        self.check_frames(6000, 15, 1)

    def test_numbers_up_to_two(self):
        self.check_frames(7000, 15, 2)

    def test_numbers_up_to_nine(self):
        self.check_frames(8000, 10, 9)

    def test_numbers_up_to_a_thousand(self):
        self.check_frames(9000, 10, 1000)

    def test_told_corners_are_between_no_two_others(self):
        # If a corner were between two others, a step and the same step back would both stay within.
        for n, count in SHAPES:
            for limits, gain in some_frames(12000 + 10 * n + count, 4, n, count, 4):
                told = ask(frame_call(n, limits, gain), CORNERS)[1]
                for point in [fractions_of(one) for one in lists_of(told)]:
                    self.assertTrue(keeps_all(n, limits, point))
                    left = left_of(n, limits, point)
                    rows = [numbers for numbers, _ in limits + not_below_zero(n)]
                    steps = list(zip(rows + [negated(numbers) for numbers in rows], left + left))
                    for kind in range(n):
                        self.assertEqual(ends(steps, n, kind), (0, 0))

    def check_whole(self, n, limits, gain):
        answer = ask(frame_call(n, limits, gain), WHOLE)[1]
        expected = second_whole(n, limits, gain)
        if isinstance(expected, int):
            self.assertEqual(answer, [expected])
            return expected
        self.assertEqual(answer, [0] + told_sum_and_point(*expected))
        return 0

    def test_whole(self):
        seen = {0: 0, -5: 0, -6: 0}
        for n, count in SHAPES:
            if count:
                for limits, gain in boxed_frames(10000 + 10 * n + count, 25, n, count):
                    with self.subTest(n=n, limits=limits, gain=gain):
                        seen[self.check_whole(n, limits, gain)] += 1
        for number in seen:
            self.assertGreater(seen[number], 20, "hardly a frame that answers %d among these" % number)

    def test_whole_of_any_frames(self):
        for n, count in SHAPES:
            for limits, gain in some_frames(11000 + 10 * n + count, 8, n, count, 4):
                with self.subTest(n=n, limits=limits, gain=gain):
                    self.check_whole(n, limits, gain)


if __name__ == "__main__":
    unittest.main()
