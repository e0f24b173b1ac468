"""Lines of 40 calls, several frames one behind another, held against a second program made from the document."""

import random
import unittest
from fractions import Fraction

from tests.helper import (
    BEST, CORNERS, GREATEST, KIND, PRICES, TOLD, WHOLE, WHY, aim, ask, check, drop, joined, left_of, limit, met, reach,
    row, second_corners, second_kind, second_proof, second_range, second_reckoning, second_way, second_whole, take,
    told_fractions, told_sum_and_point, weighed,
)


def too_great(numbers):
    return any(abs(number) > 1000 for number in numbers)


class Second:
    """The document's calls, answered by the second reckoning. A frame is a tuple (n, limits, gain)."""

    def __init__(self):
        self.frame = None

    def answer(self, name, *handed):
        if self.frame is None and name != "take":
            return [-9]
        return getattr(self, name)(*handed)

    def take(self, n, a, b, c):
        if not 1 <= n <= 4 or len(b) > 6 or len(a) != n * len(b) or len(c) != n or too_great(a + b + c):
            return [-1]
        self.frame = (n, [(a[n * place:n * place + n], most) for place, most in enumerate(b)], c)
        return [len(b)]

    def limit(self, b, a):
        n, limits, gain = self.frame
        if len(a) != n or too_great(a + [b]):
            return [-1]
        if len(limits) == 6:
            return [-6]
        self.frame = (n, limits + [(a, b)], gain)
        return [len(limits)]

    def drop(self, i):
        n, limits, gain = self.frame
        if i >= len(limits):
            return [-4]
        self.frame = (n, [one for place, one in enumerate(limits) if place != i], gain)
        return [len(limits) - 1]

    def aim(self, c):
        n, limits, _ = self.frame
        if len(c) != n or too_great(c):
            return [-1]
        self.frame = (n, limits, c)
        return [0]

    def kind(self):
        return [second_kind(*self.frame)]

    def best(self):
        found = second_reckoning(*self.frame)
        return [0] + told_sum_and_point(found[1], found[2]) if found[0] == 1 else [-5]

    def prices(self):
        found = second_reckoning(*self.frame)
        return [0] + told_sum_and_point(found[1], found[3]) if found[0] == 1 else [-5]

    def why(self):
        kind = second_kind(*self.frame)
        if kind == 2:
            return [2] + told_sum_and_point(*second_way(*self.frame))
        return [0] + told_sum_and_point(*second_proof(*self.frame[:2])) if kind == 0 else [-5]

    def corners(self):
        points = second_corners(*self.frame[:2])
        return [len(points)] + joined([told_fractions(point) for point in points])

    def left_at(self, x):
        """None where the document refuses x."""
        n, limits, _ = self.frame
        if len(x) != 2 * n or any(lower <= 0 for lower in x[1::2]):
            return None
        return left_of(n, limits, [Fraction(*pair) for pair in zip(x[::2], x[1::2])])

    def check(self, x):
        left = self.left_at(x)
        if left is None:
            return [-1]
        for place, one in enumerate(left):
            if one < 0:
                return [0, 1, place]
        return [1] + told_fractions([weighed(self.frame[2], [Fraction(*pair) for pair in zip(x[::2], x[1::2])])])

    def met(self, x):
        left = self.left_at(x)
        if left is None:
            return [-1]
        places = [place for place, one in enumerate(left) if one == 0]
        return [len(places)] + row(places)

    def range(self, i):
        if i >= self.frame[0]:
            return [-4]
        found = second_range(*self.frame[:2], i)
        if found is None:
            return [-5]
        return [1] + told_fractions(found[:1]) if found[1] is None else \
            [0] + told_fractions(found[:1]) + told_fractions(found[1:])

    def whole(self):
        found = second_whole(*self.frame)
        return [found] if isinstance(found, int) else [0] + told_sum_and_point(*found)

    def told(self):
        n, limits, gain = self.frame
        return [n] + row(joined([numbers + [most] for numbers, most in limits])) + row(gain)


AS_NUMBERS = {
    "take": take, "limit": limit, "drop": drop, "aim": aim, "check": check, "met": met, "range": reach,
    "kind": lambda: KIND, "best": lambda: BEST, "prices": lambda: PRICES, "why": lambda: WHY,
    "corners": lambda: CORNERS, "whole": lambda: WHOLE, "told": lambda: TOLD,
}
ASKING = ["kind", "best", "prices", "why", "corners", "whole", "told"]


class Maker:
    """Makes calls: most as they are asked for, some not."""

    def __init__(self, seed, size):
        self.source = random.Random(seed)
        self.size = size
        self.n = 2

    def number(self):
        if self.source.random() < 0.004:
            return self.source.choice([1001, -1001, GREATEST, -GREATEST])
        return self.source.randint(-self.size, self.size)

    def numbers(self, many):
        return [self.number() for _ in range(self.off(many))]

    def off(self, many):
        """Now and then another length."""
        return max(0, many + self.source.choice([-1, 1, 2])) if self.source.random() < 0.03 else many

    def take(self):
        self.n = self.source.choice([1, 2, 2, 3, 3, 4, 4]) if self.source.random() < 0.95 else 5
        many = self.source.randint(0, 6) if self.source.random() < 0.97 else 7
        return ("take", self.n, self.numbers(self.n * many), self.numbers(many), self.numbers(self.n))

    def point(self):
        lowers = [1, 1, 1, 2, 3, 7] if self.source.random() < 0.95 else [GREATEST, 0, -1, 1]
        uppers = [0, 0, 1, 2, 3, -1] if self.source.random() < 0.95 else [GREATEST, -GREATEST, 0]
        return [self.source.choice(lowers if place % 2 else uppers) for place in range(self.off(2 * self.n))]

    def call(self):
        name = self.source.choice(["take", "limit", "limit", "drop", "aim", "check", "met", "range"] + 2 * ASKING)
        if name == "take":
            return self.take()
        if name == "limit":
            return (name, abs(self.number()), self.numbers(self.n))
        if name in ("drop", "range"):
            return (name, self.source.choice([0, 0, 1, 1, 2, 3, 4, 5, 6, GREATEST]))
        if name == "aim":
            return (name, self.numbers(self.n))
        return (name, self.point()) if name in ("check", "met") else (name,)

    def line(self):
        calls = [self.call() for _ in range(self.source.choice([0, 0, 0, 2]))]
        calls.append(self.take())
        return calls + [self.call() for _ in range(40 - len(calls))]


def as_numbers(call):
    return AS_NUMBERS[call[0]](*call[1:])


class Lines(unittest.TestCase):
    def check_lines(self, seed, many, size, seen):
        for place in range(many):
            line = Maker(seed + place, size).line()
            self.assertEqual(len(line), 40)
            told = ask(*[as_numbers(call) for call in line])
            second = Second()
            for call, answer in zip(line, told):
                expected = second.answer(*call)
                self.assertEqual(answer, expected, (seed + place, call, second.frame))
                outcome = (call[0], answer[0] if answer[0] < 0 else 0)
                seen[outcome] = seen.get(outcome, 0) + 1

    def test_lines_with_small_numbers(self):
        seen = {}
        self.check_lines(100, 60, 3, seen)
        every = [(name, number) for name in AS_NUMBERS if name != "take" for number in (0, -9)]
        every += [("take", 0), ("take", -1), ("limit", -1), ("limit", -6), ("drop", -4), ("aim", -1), ("best", -5),
                  ("prices", -5), ("why", -5), ("check", -1), ("met", -1), ("range", -4), ("range", -5),
                  ("whole", -5), ("whole", -6)]
        self.assertEqual(set(every) - set(seen), set())

    def test_lines_with_numbers_up_to_a_thousand(self):
        self.check_lines(1000, 30, 1000, {})

    def test_several_frames_one_behind_another(self):
        asking = [BEST, PRICES, WHY, CORNERS, check([1, 2]), met([5, 2]), reach(0), WHOLE, TOLD]
        first, second = take(1, [2], [5], [3]), take(1, [2, -1], [5, -3], [3])
        third, fourth = take(1, [], [], [3]), take(2, [1, 1], [2], [1, 1])
        told = ask(*[first] + asking, *[second] + asking, *[third] + asking, *[fourth] + asking)
        self.assertEqual(len(told), 40)
        self.assertEqual(told[:10], [
            [1], [0, 2, 15, 2, 2, 5, 2], [0, 2, 15, 2, 2, 3, 2], [-5], [2, 2, 0, 1, 2, 5, 2], [1, 2, 3, 2], [1, 1, 0],
            [0, 2, 0, 1, 2, 5, 2], [0, 2, 6, 1, 2, 2, 1], [1, 2, 2, 5, 1, 3]])
        self.assertEqual(told[10:20], [
            [2], [-5], [-5], [0, 2, 1, 3, 4, 1, 3, 2, 3], [0], [0, 1, 1], [1, 1, 0],
            [-5], [-5], [1, 4, 2, 5, -1, -3, 1, 3]])
        self.assertEqual(told[20:30], [
            [0], [-5], [-5], [2, 2, 3, 1, 2, 1, 1], [1, 2, 0, 1], [1, 2, 3, 2], [0, 0],
            [1, 2, 0, 1], [-6], [1, 0, 1, 3]])
        self.assertEqual(told[30:], [
            [1], [0, 2, 2, 1, 4, 0, 1, 2, 1], [0, 2, 2, 1, 2, 1, 1], [-5],
            [3, 4, 0, 1, 0, 1, 4, 0, 1, 2, 1, 4, 2, 1, 0, 1], [-1], [-1],
            [0, 2, 0, 1, 2, 2, 1], [0, 2, 2, 1, 4, 0, 1, 2, 1], [2, 3, 1, 1, 2, 2, 1, 1]])


if __name__ == "__main__":
    unittest.main()
