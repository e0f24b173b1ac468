"""What the tests share: calls as lists, answers read back, and a second reckoning.

The second reckoning shares nothing with the program: it takes one unknown after
another out of the inequalities (Fourier and Motzkin), over Python's fractions.
"""

import random
from fractions import Fraction
from math import gcd

from straightlimits.frames import answers

KIND = [4]
BEST = [5]
PRICES = [6]
GREATEST = 9223372036854775807


def row(numbers):
    return [len(numbers)] + list(numbers)


def take(n, a, b, c):
    return [0, n] + row(a) + row(b) + row(c)


def limit(b, a):
    return [1, b] + row(a)


def drop(i):
    return [2, i]


def aim(c):
    return [3] + row(c)


def joined(calls):
    return [number for call in calls for number in call]


def split(told):
    """The answers, one list each, out of the one list."""
    found = []
    place = 0
    while place < len(told):
        many = told[place]
        if many < 1 or place + 1 + many > len(told):
            raise ValueError("the counts of %r do not fit" % (told,))
        found.append(told[place + 1:place + 1 + many])
        place += 1 + many
    return found


def ask(*calls):
    told = answers(joined(calls))
    if any(isinstance(number, bool) or not isinstance(number, int) for number in told):
        raise ValueError("not all of %r are whole numbers" % (told,))
    found = split(told)
    if len(found) != len(calls):
        raise ValueError("%d calls, %d answers" % (len(calls), len(found)))
    return found


def last(*calls):
    return ask(*calls)[-1]


def fractions_of(numbers):
    if len(numbers) % 2:
        raise ValueError("half a fraction in %r" % (numbers,))
    found = []
    for upper, lower in zip(numbers[::2], numbers[1::2]):
        if lower < 1 or gcd(upper, lower) != 1:
            raise ValueError("%d over %d is not in its lowest form" % (upper, lower))
        found.append(Fraction(upper, lower))
    return found


def sum_and_point(answer):
    """What best or prices answers: the one fraction, and the list of fractions."""
    if answer[:2] != [0, 2]:
        raise ValueError("%r is no 0 with a list of two" % (answer,))
    if answer[4] != len(answer) - 5:
        raise ValueError("the second list of %r has another length" % (answer,))
    return fractions_of(answer[2:4])[0], fractions_of(answer[5:])


def weighed(numbers, amounts):
    return sum((number * amount for number, amount in zip(numbers, amounts)), Fraction(0))


# An inequality is (numbers, most, history): the numbers times the unknowns, added, are at most the most.
# The history has a bit for each of the first inequalities that it was added up from.

def system(rows):
    return [([Fraction(number) for number in numbers], Fraction(most), 1 << place)
            for place, (numbers, most) in enumerate(rows)]


def without_unknown(rows, unknown, steps):
    """After so many steps an inequality out of more than steps + 1 of the first ones says nothing new."""
    above = [one for one in rows if one[0][unknown] > 0]
    below = [one for one in rows if one[0][unknown] < 0]
    found = [one for one in rows if one[0][unknown] == 0]
    for one in above:
        for other in below:
            history = one[2] | other[2]
            if history.bit_count() <= steps + 1:
                up, down = one[0][unknown], -other[0][unknown]
                numbers = [down * p + up * q for p, q in zip(one[0], other[0])]
                found.append((numbers, down * one[1] + up * other[1], history))
    return found


def ends(rows, many, unknown):
    """Least and greatest of an unknown under the rows (None: no end), or None if nothing keeps them all."""
    rows = system(rows)
    steps = 0
    for other in range(many):
        if other != unknown:
            steps += 1
            rows = without_unknown(rows, other, steps)
    least = max((most / numbers[unknown] for numbers, most, _ in rows if numbers[unknown] < 0), default=None)
    greatest = min((most / numbers[unknown] for numbers, most, _ in rows if numbers[unknown] > 0), default=None)
    if any(numbers[unknown] == 0 and most < 0 for numbers, most, _ in rows):
        return None
    if least is not None and greatest is not None and least > greatest:
        return None
    return least, greatest


def not_below_zero(many):
    return [([-1 if other == one else 0 for other in range(many)], 0) for one in range(many)]


def can_be_kept(rows, many):
    """The rows with one more unknown that nothing asks for."""
    return ends([(list(numbers) + [0], most) for numbers, most in rows], many + 1, many) is not None


def first_point(rows, many):
    """The first point, in the document's order, that keeps the rows."""
    found = []
    for left in range(many, 0, -1):
        amount = ends(rows, left, 0)[0]
        rows = [(numbers[1:], most - numbers[0] * amount) for numbers, most in rows]
        found.append(amount)
    return found


def price_rows(n, limits, gain):
    """What the document asks of prices, as inequalities of the prices."""
    covered = [([-numbers[kind] for numbers, _ in limits], -gain[kind]) for kind in range(n)]
    return covered + not_below_zero(len(limits))


def second_reckoning(n, limits, gain):
    """(0,), (2,), or (1, what's got, the best, the best prices)."""
    rows = limits + not_below_zero(n)
    with_got = [(list(numbers) + [0], most) for numbers, most in rows] + [([-number for number in gain] + [1], 0)]
    reach = ends(with_got, n + 1, n)
    if reach is None:
        return (0,)
    most_got = reach[1]
    if most_got is None:
        return (2,)
    best = first_point(rows + [([-number for number in gain], -most_got)], n)
    cost = ([most for _, most in limits], most_got)
    prices = first_point(price_rows(n, limits, gain) + [cost], len(limits))
    return (1, most_got, best, prices)


def proof_can_be_had(n, limits):
    """Whether some weights of the limits, not below 0, show that nothing is within."""
    rows = price_rows(n, limits, [0] * n) + [([most for _, most in limits], -1)]
    return can_be_kept(rows, len(limits))


def way_can_be_had(n, limits, gain):
    """Whether there are amounts along which all limits stay kept and the gain grows."""
    rows = [(numbers, 0) for numbers, _ in limits] + not_below_zero(n)
    return can_be_kept(rows + [([-number for number in gain], -1)], n)


def frame_call(n, limits, gain):
    return take(n, joined([numbers for numbers, _ in limits]), [most for _, most in limits], gain)


def some_frames(seed, many, n, count, size):
    """The same frames each time: small sizes bring ties and limits met at one point."""
    source = random.Random(seed)
    greatest = min(2 * size, 1000)

    def numbers():
        return [source.randint(-size, size) for _ in range(n)]
    return [([(numbers(), source.randint(-size, greatest)) for _ in range(count)], numbers()) for _ in range(many)]
