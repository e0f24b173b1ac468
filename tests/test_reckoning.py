"""Many small frames, held against the document's own words and against a second reckoning."""

import unittest

from tests.helper import (
    BEST, KIND, PRICES, ask, frame_call, proof_can_be_had, second_reckoning, some_frames, sum_and_point,
    way_can_be_had, weighed,
)

SHAPES = [(n, count) for n in range(1, 5) for count in range(7)]


class ManyFrames(unittest.TestCase):
    def check_best(self, n, limits, gain, got, point):
        self.assertEqual(len(point), n)
        self.assertTrue(all(amount >= 0 for amount in point))
        for numbers, most in limits:
            self.assertLessEqual(weighed(numbers, point), most)
        self.assertEqual(weighed(gain, point), got)

    def check_prices(self, n, limits, gain, cost, prices):
        self.assertEqual(len(prices), len(limits))
        self.assertTrue(all(price >= 0 for price in prices))
        for kind in range(n):
            self.assertGreaterEqual(weighed([numbers[kind] for numbers, _ in limits], prices), gain[kind])
        self.assertEqual(weighed([most for _, most in limits], prices), cost)

    def check_pair(self, limits, got, point, cost, prices):
        self.assertEqual(got, cost)
        for (numbers, most), price in zip(limits, prices):
            if weighed(numbers, point) != most:
                self.assertEqual(price, 0)

    def check_frame(self, n, limits, gain):
        kind, best, prices = ask(frame_call(n, limits, gain), KIND, BEST, PRICES)[1:]
        expected = second_reckoning(n, limits, gain)
        self.assertEqual(kind, [expected[0]])
        if expected[0] != 1:
            self.assertEqual((best, prices), ([-5], [-5]))
            if expected[0] == 0:
                self.assertTrue(proof_can_be_had(n, limits))
            else:
                self.assertTrue(way_can_be_had(n, limits, gain))
            return expected[0]
        got, point = sum_and_point(best)
        cost, price = sum_and_point(prices)
        self.check_best(n, limits, gain, got, point)
        self.check_prices(n, limits, gain, cost, price)
        self.check_pair(limits, got, point, cost, price)
        self.assertEqual((got, point, price), expected[1:])
        return 1

    def check_frames(self, seed, many, size):
        seen = {0: 0, 1: 0, 2: 0}
        for n, count in SHAPES:
            for limits, gain in some_frames(seed + 10 * n + count, many, n, count, size):
                with self.subTest(n=n, limits=limits, gain=gain):
                    seen[self.check_frame(n, limits, gain)] += 1
        for kind in seen:
            self.assertGreater(seen[kind], 20, "hardly a frame of kind %d among these" % kind)

    def test_numbers_up_to_one(self):
        self.check_frames(1000, 60, 1)

    def test_numbers_up_to_two(self):
        self.check_frames(2000, 60, 2)

    def test_numbers_up_to_nine(self):
        self.check_frames(3000, 40, 9)

    def test_numbers_up_to_a_thousand(self):
        for n, count in SHAPES:
            for limits, gain in some_frames(4000 + 10 * n + count, 20, n, count, 1000):
                with self.subTest(n=n, limits=limits, gain=gain):
                    self.check_frame(n, limits, gain)

    def test_frames_of_a_workshop(self):
        # Numbers and mosts not below 0 give frames with a best, and many corners.
        for n, count in SHAPES:
            for limits, gain in some_frames(5000 + 10 * n + count, 30, n, count, 6):
                limits = [([abs(number) for number in numbers], abs(most)) for numbers, most in limits]
                with self.subTest(n=n, limits=limits, gain=gain):
                    self.check_frame(n, limits, gain)


if __name__ == "__main__":
    unittest.main()
