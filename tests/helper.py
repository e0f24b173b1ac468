"""What the tests share: calls as lists, answers read back, and a second reckoning.

The second reckoning shares nothing with the program: it takes one unknown after
another out of the inequalities (Fourier and Motzkin), over Python's fractions.
Corners it finds by Cramer's rule, whole points by going through all there may be.
"""

import random
from fractions import Fraction
from itertools import combinations, product
from math import gcd

from straightlimits.frames import answers

KIND = [4]
BEST = [5]
PRICES = [6]
WHY = [7]
CORNERS = [8]
WHOLE = [12]
TOLD = [13]
GREATEST = 9223372036854775807


def row(numbers):
    return [len(numbers)] + list(numbers)


def take(n, a, b, c):
    return [0, n] + row(a) + row(b) + row(c)


def limit(b, a):
    return [1, b] + row(a)


def drop(i):
    return [2, i]


def aim(c):
    return [3] + row(c)


def check(x):
    return [9] + row(x)


def met(x):
    return [10] + row(x)


def reach(i):
    """The call range."""
    return [11, i]


def joined(calls):
    return [number for call in calls for number in call]


def counted(numbers, least):
    """The lists out of one list in which each has its count, no less than least, ahead of it."""
    found = []
    place = 0
    while place < len(numbers):
        many = numbers[place]
        if many < least or place + 1 + many > len(numbers):
            raise ValueError("the counts of %r do not fit" % (numbers,))
        found.append(numbers[place + 1:place + 1 + many])
        place += 1 + many
    return found


def split(told):
    """The answers, one list each, out of the one list."""
    return counted(told, 1)


def ask(*calls):
    told = answers(joined(calls))
    if any(isinstance(number, bool) or not isinstance(number, int) for number in told):
        raise ValueError("not all of %r are whole numbers" % (told,))
    found = split(told)
    if len(found) != len(calls):
        raise ValueError("%d calls, %d answers" % (len(calls), len(found)))
    return found


def last(*calls):
    return ask(*calls)[-1]


def fractions_of(numbers):
    if len(numbers) % 2:
        raise ValueError("half a fraction in %r" % (numbers,))
    found = []
    for upper, lower in zip(numbers[::2], numbers[1::2]):
        if lower < 1 or gcd(upper, lower) != 1:
            raise ValueError("%d over %d is not in its lowest form" % (upper, lower))
        found.append(Fraction(upper, lower))
    return found


def lists_of(answer):
    """The lists behind the number that is answered first, without their counts."""
    return counted(answer[1:], 0)


def sum_and_point(answer):
    """What best, prices, why or whole answers: the one fraction, and the list of fractions."""
    one, several = lists_of(answer)
    if len(one) != 2:
        raise ValueError("the first list of %r is no fraction" % (answer,))
    return fractions_of(one)[0], fractions_of(several)


def told_fractions(point):
    """A list as the program tells it: each fraction as two numbers, the count ahead of them."""
    return row([number for amount in point for number in (amount.numerator, amount.denominator)])


def told_sum_and_point(got, point):
    return told_fractions([Fraction(got)]) + told_fractions([Fraction(amount) for amount in point])


def weighed(numbers, amounts):
    return sum((number * amount for number, amount in zip(numbers, amounts)), Fraction(0))


# An inequality is (numbers, most, history): the numbers times the unknowns, added, are at most the most.
# The history has a bit for each of the first inequalities that it was added up from.

def system(rows):
    return [([Fraction(number) for number in numbers], Fraction(most), 1 << place)
            for place, (numbers, most) in enumerate(rows)]


def without_unknown(rows, unknown, steps):
    """After so many steps an inequality out of more than steps + 1 of the first ones says nothing new."""
    above = [one for one in rows if one[0][unknown] > 0]
    below = [one for one in rows if one[0][unknown] < 0]
    found = [one for one in rows if one[0][unknown] == 0]
    for one in above:
        for other in below:
            history = one[2] | other[2]
            if history.bit_count() <= steps + 1:
                up, down = one[0][unknown], -other[0][unknown]
                numbers = [down * p + up * q for p, q in zip(one[0], other[0])]
                found.append((numbers, down * one[1] + up * other[1], history))
    return found


def ends(rows, many, unknown):
    """Least and greatest of an unknown under the rows (None: no end), or None if nothing keeps them all."""
    rows = system(rows)
    steps = 0
    for other in range(many):
        if other != unknown:
            steps += 1
            rows = without_unknown(rows, other, steps)
    least = max((most / numbers[unknown] for numbers, most, _ in rows if numbers[unknown] < 0), default=None)
    greatest = min((most / numbers[unknown] for numbers, most, _ in rows if numbers[unknown] > 0), default=None)
    if any(numbers[unknown] == 0 and most < 0 for numbers, most, _ in rows):
        return None
    if least is not None and greatest is not None and least > greatest:
        return None
    return least, greatest


def not_below_zero(many):
    return [([-1 if other == one else 0 for other in range(many)], 0) for one in range(many)]


def first_point(rows, many):
    """The first point, in the document's order, that keeps the rows."""
    found = []
    for left in range(many, 0, -1):
        amount = ends(rows, left, 0)[0]
        rows = [(numbers[1:], most - numbers[0] * amount) for numbers, most in rows]
        found.append(amount)
    return found


def price_rows(n, limits, gain):
    """What the document asks of prices, as inequalities of the prices."""
    covered = [([-numbers[kind] for numbers, _ in limits], -gain[kind]) for kind in range(n)]
    return covered + not_below_zero(len(limits))


def negated(numbers):
    return [-number for number in numbers]


def ends_of_got(rows, many, gain):
    """Like ends, of what's got: one more unknown that is at most that."""
    with_got = [(list(numbers) + [0], most) for numbers, most in rows] + [(negated(gain) + [1], 0)]
    return ends(with_got, many + 1, many)


def first_with_most_got(rows, many, gain):
    """What's got and the point, where the rows leave something and there is an end."""
    most_got = ends_of_got(rows, many, gain)[1]
    return most_got, first_point(rows + [(negated(gain), -most_got)], many)


def second_kind(n, limits, gain):
    found = ends_of_got(limits + not_below_zero(n), n, gain)
    if found is None:
        return 0
    return 2 if found[1] is None else 1


def second_reckoning(n, limits, gain):
    """(0,), (2,), or (1, what's got, the best, the best prices)."""
    kind = second_kind(n, limits, gain)
    if kind != 1:
        return (kind,)
    most_got, best = first_with_most_got(limits + not_below_zero(n), n, gain)
    cost = ([most for _, most in limits], most_got)
    prices = first_point(price_rows(n, limits, gain) + [cost], len(limits))
    return (1, most_got, best, prices)


def second_way(n, limits, gain):
    rows = [(numbers, 0) for numbers, _ in limits] + not_below_zero(n) + [([1] * n, 1)]
    return first_with_most_got(rows, n, gain)


def second_proof(n, limits):
    """Its cost with the other sign, and the proof."""
    many = len(limits)
    rows = price_rows(n, limits, [0] * n) + [([1] * many, 1)]
    return first_with_most_got(rows, many, [-most for _, most in limits])


def left_of(n, limits, point):
    """Of each limit and then of each kind how much there is up to where it's met."""
    return [most - weighed(numbers, point) for numbers, most in limits + not_below_zero(n)]


def keeps_all(n, limits, point):
    return all(left >= 0 for left in left_of(n, limits, point))


def determinant(rows):
    if not rows:
        return 1
    found = 0
    for place, number in enumerate(rows[0]):
        below = [one[:place] + one[place + 1:] for one in rows[1:]]
        found += (-1) ** place * number * (determinant(below) if number else 0)
    return found


def crossing(rows, n):
    """The one point at which all these n rows are met (by Cramer's rule), or None."""
    whole = determinant([list(numbers) for numbers, _ in rows])
    if whole == 0:
        return None
    amounts = []
    for kind in range(n):
        exchanged = [list(numbers[:kind]) + [most] + list(numbers[kind + 1:]) for numbers, most in rows]
        amounts.append(Fraction(determinant(exchanged), whole))
    return tuple(amounts)


def second_corners(n, limits):
    """A point within is between no two others just where n of what it meets are met nowhere else."""
    points = {crossing(chosen, n) for chosen in combinations(limits + not_below_zero(n), n)} - {None}
    return sorted(point for point in points if keeps_all(n, limits, point))


def second_range(n, limits, kind):
    """Least and greatest (None: no end) of a kind within, or None."""
    return ends(limits + not_below_zero(n), n, kind)


def whole_sum(numbers, amounts):
    return sum(number * amount for number, amount in zip(numbers, amounts))


def second_whole(n, limits, gain):
    """-5, -6, or what's got and the point."""
    for kind in range(n):
        found = second_range(n, limits, kind)
        if found is None:
            return -5
        if found[1] is None or found[1] > 8:
            return -6
    within = [point for point in product(range(9), repeat=n)
              if all(whole_sum(numbers, point) <= most for numbers, most in limits)]
    if not within:
        return -5
    most_got = max(whole_sum(gain, point) for point in within)
    return most_got, min(point for point in within if whole_sum(gain, point) == most_got)


def frame_call(n, limits, gain):
    return take(n, joined([numbers for numbers, _ in limits]), [most for _, most in limits], gain)


def some_frames(seed, many, n, count, size):
    """The same frames each time: small sizes bring ties and limits met at one point."""
    source = random.Random(seed)
    greatest = min(2 * size, 1000)

    def numbers():
        return [source.randint(-size, size) for _ in range(n)]
    return [([(numbers(), source.randint(-size, greatest)) for _ in range(count)], numbers()) for _ in range(many)]


def boxed_frames(seed, many, n, count):
    """Frames with few of each kind within, so that whole has something to look for."""
    source = random.Random(seed)
    found = []
    for limits, gain in some_frames(seed, many, n, count, 5):
        # One limit bounds all kinds; with some it lets just 8 in, with some a little more.
        bound = source.choice([([1] * n, 8), ([2] * n, 7), ([3] * n, 10), ([1] * n, 3), ([4] * n, 33), ([2] * n, 17)])
        found.append(([bound] + limits[1:], gain))
    return found
