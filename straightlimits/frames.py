"""The calls on a frame, read from one list of whole numbers and answered in one."""

from straightlimits.reckoning import Frame, first_best, fraction, kind_of, turned, weighed

MOST_KINDS = 4
MOST_LIMITS = 6
MOST_SIZE = 1000

NOT_AS_ASKED = -1
NO_SUCH = -4
NOT_OF_THIS_KIND = -5
NO_MORE_ROOM = -6
NO_FRAME = -9

TAKE = 0


class CallNotBuilt(NotImplementedError):
    """The call is read, but nothing answers it yet."""


class Desk:
    """What the calls of one list work on: a frame, or None before the first is taken."""

    def __init__(self):
        self.frame = None


class Reader:
    """Walks through a list of calls without changing it."""

    def __init__(self, calls):
        self.calls = calls
        self.place = 0

    def has_more(self):
        return self.place < len(self.calls)

    def next_number(self):
        number = self.calls[self.place]
        self.place = self.place + 1
        return number

    def next_row(self):
        many = self.next_number()
        row = self.calls[self.place:self.place + many]
        self.place = self.place + many
        return row


def are_small(numbers):
    return all([abs(number) <= MOST_SIZE for number in numbers])


def is_row(numbers, kinds):
    return len(numbers) == kinds and are_small(numbers)


def is_frame(kinds, numbers, mosts, gain):
    if kinds < 1 or kinds > MOST_KINDS or len(mosts) > MOST_LIMITS:
        return False
    return is_row(numbers, kinds * len(mosts)) and are_small(mosts) and is_row(gain, kinds)


def without(values, place):
    return values[:place] + values[place + 1:]


def take(desk, wholes, rows):
    kinds = wholes[0]
    numbers = rows[0]
    mosts = rows[1]
    gain = rows[2]
    if not is_frame(kinds, numbers, mosts, gain):
        return [NOT_AS_ASKED]
    limits = [numbers[kinds * place:kinds * (place + 1)] for place in range(len(mosts))]
    desk.frame = Frame(kinds, limits, mosts, gain)
    return [len(mosts)]


def limit(desk, wholes, rows):
    frame = desk.frame
    if not is_row(rows[0], frame.kinds) or not are_small(wholes):
        return [NOT_AS_ASKED]
    if len(frame.rows) >= MOST_LIMITS:
        return [NO_MORE_ROOM]
    desk.frame = Frame(frame.kinds, frame.rows + [rows[0]], frame.mosts + [wholes[0]], frame.gain)
    return [len(frame.rows)]


def drop(desk, wholes, rows):
    frame = desk.frame
    place = wholes[0]
    if place >= len(frame.rows):
        return [NO_SUCH]
    desk.frame = Frame(frame.kinds, without(frame.rows, place), without(frame.mosts, place), frame.gain)
    return [len(desk.frame.rows)]


def aim(desk, wholes, rows):
    frame = desk.frame
    if not is_row(rows[0], frame.kinds):
        return [NOT_AS_ASKED]
    desk.frame = Frame(frame.kinds, frame.rows, frame.mosts, rows[0])
    return [0]


def kind(desk, wholes, rows):
    return [kind_of(desk.frame)]


def told_list(numbers):
    return [len(numbers)] + numbers


def told_point(point):
    told = []
    for upper in point[0]:
        told.extend(fraction(upper, point[1]))
    return told_list(told)


def told_sum(numbers, point):
    """What the point comes to by the numbers."""
    return told_list(fraction(weighed(numbers, point[0]), point[1]))


def best(desk, wholes, rows):
    frame = desk.frame
    if kind_of(frame) != 1:
        return [NOT_OF_THIS_KIND]
    point = first_best(frame)
    return [0] + told_sum(frame.gain, point) + told_point(point)


def prices(desk, wholes, rows):
    frame = desk.frame
    if kind_of(frame) != 1:
        return [NOT_OF_THIS_KIND]
    point = first_best(turned(frame))
    return [0] + told_sum(frame.mosts, point) + told_point(point)


def not_built(desk, wholes, rows):
    raise CallNotBuilt("this call is not built yet")


# By a call's number: take, limit, drop, aim, kind, best, prices, why, corners, check, met, range, whole, told.
WHOLES = (1, 1, 1, 0, 0, 0, 0, 0, 0, 0, 0, 1, 0, 0)
ROWS = (3, 1, 0, 1, 0, 0, 0, 0, 0, 1, 1, 0, 0, 0)
ACTS = (
    take, limit, drop, aim, kind, best, prices,
    not_built, not_built, not_built, not_built, not_built, not_built, not_built,
)


def answer(desk, reader):
    """Reads one call and answers it."""
    number = reader.next_number()
    wholes = [reader.next_number() for count in range(WHOLES[number])]
    rows = [reader.next_row() for count in range(ROWS[number])]
    if desk.frame is None and number != TAKE:
        return [NO_FRAME]
    act = ACTS[number]
    return act(desk, wholes, rows)


def answers(calls):
    """The answers to the calls, each with how many numbers it has ahead of it."""
    desk = Desk()
    reader = Reader(calls)
    told = []
    while reader.has_more():
        told.extend(told_list(answer(desk, reader)))
    return told
