"""The calls on a frame, read from one list of whole numbers and answered in one."""

from straightlimits.reckoning import Frame, aimed, first_best, first_best_whole, fraction, has_corner, has_end
from straightlimits.reckoning import is_bounded, kind_of, lefts, negated, ordered_corners, shared_point, turned, ways
from straightlimits.reckoning import weighed

MOST_KINDS = 4
MOST_LIMITS = 6
MOST_SIZE = 1000
MOST_WHOLE = 8

NOT_AS_ASKED = -1
NO_SUCH = -4
NONE_THERE = -5
TOO_MANY = -6
NO_FRAME = -9

TAKE = 0


class Desk:
    """What the calls of one list work on: a frame, or None before the first is taken."""

    def __init__(self):
        self.frame = None


class Reader:
    """Walks through a list of calls without changing it."""

    def __init__(self, calls):
        self.calls = calls
        self.place = 0

    def has_more(self):
        return self.place < len(self.calls)

    def next_number(self):
        number = self.calls[self.place]
        self.place = self.place + 1
        return number

    def next_row(self):
        many = self.next_number()
        row = self.calls[self.place:self.place + many]
        self.place = self.place + many
        return row


def are_small(numbers):
    return all([abs(number) <= MOST_SIZE for number in numbers])


def is_row(numbers, kinds):
    return len(numbers) == kinds and are_small(numbers)


def is_frame(kinds, numbers, mosts, gain):
    if kinds < 1 or kinds > MOST_KINDS or len(mosts) > MOST_LIMITS:
        return False
    return is_row(numbers, kinds * len(mosts)) and are_small(mosts) and is_row(gain, kinds)


def without(values, place):
    return values[:place] + values[place + 1:]


def take(desk, wholes, rows):
    kinds = wholes[0]
    numbers = rows[0]
    mosts = rows[1]
    gain = rows[2]
    if not is_frame(kinds, numbers, mosts, gain):
        return [NOT_AS_ASKED]
    limits = [numbers[kinds * place:kinds * (place + 1)] for place in range(len(mosts))]
    desk.frame = Frame(kinds, limits, mosts, gain)
    return [len(mosts)]


def limit(desk, wholes, rows):
    frame = desk.frame
    if not is_row(rows[0], frame.kinds) or not are_small(wholes):
        return [NOT_AS_ASKED]
    if len(frame.rows) >= MOST_LIMITS:
        return [TOO_MANY]
    desk.frame = Frame(frame.kinds, frame.rows + [rows[0]], frame.mosts + [wholes[0]], frame.gain)
    return [len(frame.rows)]


def drop(desk, wholes, rows):
    frame = desk.frame
    place = wholes[0]
    if place >= len(frame.rows):
        return [NO_SUCH]
    desk.frame = Frame(frame.kinds, without(frame.rows, place), without(frame.mosts, place), frame.gain)
    return [len(desk.frame.rows)]


def aim(desk, wholes, rows):
    if not is_row(rows[0], desk.frame.kinds):
        return [NOT_AS_ASKED]
    desk.frame = aimed(desk.frame, rows[0])
    return [0]


def kind(desk, wholes, rows):
    return [kind_of(desk.frame)]


def told_list(numbers):
    return [len(numbers)] + numbers


def told_point(point):
    numbers = []
    for upper in point[0]:
        numbers.extend(fraction(upper, point[1]))
    return told_list(numbers)


def told_sum(numbers, point):
    """What the point comes to by the numbers."""
    return told_list(fraction(weighed(numbers, point[0]), point[1]))


def told_sum_and_point(numbers, point):
    return told_sum(numbers, point) + told_point(point)


def best(desk, wholes, rows):
    frame = desk.frame
    if kind_of(frame) != 1:
        return [NONE_THERE]
    return [0] + told_sum_and_point(frame.gain, first_best(frame))


def prices(desk, wholes, rows):
    frame = desk.frame
    if kind_of(frame) != 1:
        return [NONE_THERE]
    return [0] + told_sum_and_point(frame.mosts, first_best(turned(frame)))


def why(desk, wholes, rows):
    frame = desk.frame
    found = kind_of(frame)
    if found == 1:
        return [NONE_THERE]
    # The turned frame's gain is the cost with the other sign, just as it's to be told.
    asked = ways(frame if found == 2 else turned(frame))
    return [found] + told_sum_and_point(asked.gain, first_best(asked))


def corners(desk, wholes, rows):
    points = ordered_corners(desk.frame)
    numbers = [len(points)]
    for point in points:
        numbers.extend(told_point(point))
    return numbers


def is_point(numbers, kinds):
    return len(numbers) == 2 * kinds and all([lower > 0 for lower in numbers[1::2]])


def check(desk, wholes, rows):
    frame = desk.frame
    if not is_point(rows[0], frame.kinds):
        return [NOT_AS_ASKED]
    point = shared_point(rows[0])
    broken = [place for place, left in enumerate(lefts(frame, point)) if left < 0]
    if broken:
        return [0] + told_list(broken[:1])
    return [1] + told_sum(frame.gain, point)


def met(desk, wholes, rows):
    frame = desk.frame
    if not is_point(rows[0], frame.kinds):
        return [NOT_AS_ASKED]
    places = [place for place, left in enumerate(lefts(frame, shared_point(rows[0]))) if left == 0]
    return [len(places)] + told_list(places)


def span(desk, wholes, rows):
    """The call range, whose name is Python's own."""
    frame = desk.frame
    if wholes[0] >= frame.kinds:
        return [NO_SUCH]
    if not has_corner(frame):
        return [NONE_THERE]
    # With this gain what's got is the amount of the kind that is asked for.
    gain = [1 if place == wholes[0] else 0 for place in range(frame.kinds)]
    least = told_sum(gain, first_best(aimed(frame, negated(gain))))
    rising = aimed(frame, gain)
    if not has_end(rising):
        return [1] + least
    return [0] + least + told_sum(gain, first_best(rising))


def whole(desk, wholes, rows):
    frame = desk.frame
    if not has_corner(frame):
        return [NONE_THERE]
    if not is_bounded(frame, MOST_WHOLE):
        return [TOO_MANY]
    point = first_best_whole(frame, MOST_WHOLE)
    if point is None:
        return [NONE_THERE]
    return [0] + told_sum_and_point(frame.gain, point)


def told(desk, wholes, rows):
    frame = desk.frame
    numbers = []
    for row, most in zip(frame.rows, frame.mosts):
        numbers.extend(row + [most])
    return [frame.kinds] + told_list(numbers) + told_list(frame.gain)


# By a call's number: take, limit, drop, aim, kind, best, prices, why, corners, check, met, range, whole, told.
WHOLES = (1, 1, 1, 0, 0, 0, 0, 0, 0, 0, 0, 1, 0, 0)
ROWS = (3, 1, 0, 1, 0, 0, 0, 0, 0, 1, 1, 0, 0, 0)
ACTS = (take, limit, drop, aim, kind, best, prices, why, corners, check, met, span, whole, told)


def answer(desk, reader):
    """Reads one call and answers it."""
    number = reader.next_number()
    wholes = [reader.next_number() for count in range(WHOLES[number])]
    rows = [reader.next_row() for count in range(ROWS[number])]
    if desk.frame is None and number != TAKE:
        return [NO_FRAME]
    act = ACTS[number]
    return act(desk, wholes, rows)


def answers(calls):
    """The answers to the calls, each with how many numbers it has ahead of it."""
    desk = Desk()
    reader = Reader(calls)
    numbers = []
    while reader.has_more():
        numbers.extend(told_list(answer(desk, reader)))
    return numbers
