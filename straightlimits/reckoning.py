"""The exact reckoning: the corners of a frame, and the first of the best among them.

A point is a pair: the list of its uppers, and the one lower above 0 that they share.
"""


class Frame:
    """Limit i is rows[i] (of each kind a number) with mosts[i]. A frame is not changed once it is made."""

    def __init__(self, kinds, rows, mosts, gain):
        self.kinds = kinds
        self.rows = rows
        self.mosts = mosts
        self.gain = gain


def aimed(frame, gain):
    """The same limits with another gain."""
    return Frame(frame.kinds, frame.rows, frame.mosts, gain)


def negated(numbers):
    return [-number for number in numbers]


def column(rows, kind):
    return [row[kind] for row in rows]


def turned(frame):
    """The frame whose points are the prices of this one.

    Prices cover each kind's gain, at least cost: with the other sign these are
    limits and a gain too, so one reckoning serves for both.
    """
    rows = [negated(column(frame.rows, kind)) for kind in range(frame.kinds)]
    return Frame(len(frame.rows), rows, negated(frame.gain), negated(frame.mosts))


def ways(frame):
    """The frame whose points are the ways of this one; their bounded sum sees to it that there is a best.

    The ways of the turned frame are the fractions among which the proof that nothing is within is found.
    """
    rows = frame.rows + [[1] * frame.kinds]
    return Frame(frame.kinds, rows, [0] * len(frame.rows) + [1], frame.gain)


def weighed(numbers, amounts):
    return sum([number * amount for number, amount in zip(numbers, amounts)])


def choices(many):
    """Every choice out of the numbers from 0 to below many, each rising."""
    found = [[]]
    for number in range(many):
        found = found + [chosen + [number] for chosen in found]
    return found


def squares(frame):
    """Every choice of kinds with every choice of as many limits."""
    of_limits = choices(len(frame.rows))
    found = []
    for used in choices(frame.kinds):
        found.extend([(used, met) for met in of_limits if len(met) == len(used)])
    return found


def pivot_place(table, step):
    for place in range(step, len(table)):
        if table[place][step] != 0:
            return place
    return None


def cleared_row(row, pivot, step, before):
    return [(pivot[step] * number - row[step] * other) // before for number, other in zip(row, pivot)]


def cleared(table, step, place, before):
    """The table with the row at place brought to step, and that column cleared in all other rows."""
    pivot = table[place]
    others = table[:place] + table[place + 1:]
    rows = [cleared_row(row, pivot, step, before) for row in others]
    return rows[:step] + [pivot] + rows[step:]


def solution(table):
    """The one point that solves the table, each row with its right side last; None if there isn't just one.

    Dividing by the pivot of the step before leaves no remainder, since every
    number is then a determinant out of the table; so the numbers stay small.
    """
    before = 1
    for step in range(len(table)):
        place = pivot_place(table, step)
        if place is None:
            return None
        table = cleared(table, step, place, before)
        before = table[step][step]
    uppers = [row[-1] for row in table]
    return (uppers, before) if before > 0 else (negated(uppers), -before)


def meeting_point(frame, used, met):
    """The one point that meets the limits in met and has none of the kinds outside used; None if there isn't one."""
    table = []
    for limit in met:
        row = frame.rows[limit]
        table.append([row[kind] for kind in used] + [frame.mosts[limit]])
    solved = solution(table)
    if solved is None:
        return None
    uppers = [0] * frame.kinds
    for kind, upper in zip(used, solved[0]):
        uppers[kind] = upper
    return (uppers, solved[1])


def lefts(frame, point):
    """Of each limit what is left of its most, then each kind's amount, all times the point's lower.

    In the document's numbering, so that what is below 0 isn't kept, and what is 0 is met.
    """
    left = [most * point[1] - weighed(row, point[0]) for row, most in zip(frame.rows, frame.mosts)]
    return left + point[0]


def is_within(frame, point):
    return all([left >= 0 for left in lefts(frame, point)])


def corner_at(frame, square):
    """The corner that the square tells, or None."""
    point = meeting_point(frame, square[0], square[1])
    if point is None or not is_within(frame, point):
        return None
    return point


def corner_points(frame):
    """Every corner, in no order, some of them several times.

    A corner is the only point that meets all that it meets. So out of the limits
    met there, as many as it has amounts above 0 tell these amounts.
    """
    found = [corner_at(frame, square) for square in squares(frame)]
    return [point for point in found if point is not None]


def has_corner(frame):
    """Whether anything is within: as no amount is below 0, there is a corner then."""
    for square in squares(frame):
        if corner_at(frame, square) is not None:
            return True
    return False


def has_end(frame):
    """Whether there is an end to what's got, if anything is within: just where there are prices."""
    return has_corner(turned(frame))


def kind_of(frame):
    if not has_corner(frame):
        return 0
    return 1 if has_end(frame) else 2


def is_before(point, other):
    """Whether point comes ahead of other in the order of points."""
    for upper, other_upper in zip(point[0], other[0]):
        difference = upper * other[1] - other_upper * point[1]
        if difference != 0:
            return difference < 0
    return False


def ordered_corners(frame):
    """Every corner once, in the order of points."""
    found = []
    for point in corner_points(frame):
        place = 0
        while place < len(found) and is_before(found[place], point):
            place = place + 1
        if place == len(found) or is_before(point, found[place]):
            found.insert(place, point)
    return found


def is_better(gain, point, other):
    """Whether more is got at point than at other, or as much and point comes first."""
    difference = weighed(gain, point[0]) * other[1] - weighed(gain, other[0]) * point[1]
    if difference != 0:
        return difference > 0
    return is_before(point, other)


def first_best(frame):
    """The best of a frame of kind 1.

    It is a corner: were it between two others within, both would get as much,
    and one of them would come ahead of it.
    """
    points = corner_points(frame)
    chosen = points[0]
    for point in points:
        if is_better(frame.gain, point, chosen):
            chosen = point
    return chosen


def is_bounded(frame, most):
    """Whether of no kind there is more than most within, where something is within.

    If there is no end to the kinds together there is none to one of them; else the greatest amounts are at corners.
    """
    if not has_end(aimed(frame, [1] * frame.kinds)):
        return False
    return all([max(point[0]) <= most * point[1] for point in corner_points(frame)])


def whole_rows(many, most):
    """Every row of so many whole numbers from 0 to most."""
    found = [[]]
    for count in range(many):
        longer = []
        for numbers in found:
            longer.extend([numbers + [number] for number in range(most + 1)])
        found = longer
    return found


def last_amounts(frame, amounts, most):
    """The whole amounts of the last kind, from 0 to most, that keep the limits beside these amounts of the others."""
    least = 0
    greatest = most
    for row, limit_most in zip(frame.rows, frame.mosts):
        left = limit_most - weighed(row[:-1], amounts)
        if row[-1] > 0:
            greatest = min(greatest, left // row[-1])
        elif row[-1] < 0:
            # Rounded up, as the amount must be at least that.
            least = max(least, -(left // -row[-1]))
        elif left < 0:
            return []
    return list(range(least, greatest + 1))


def first_best_whole(frame, most):
    """The first of the best points within whose amounts are whole and at most most; None if there isn't one.

    The last kind's amount follows from the others, which spares going through all of its amounts.
    """
    chosen = None
    for amounts in whole_rows(frame.kinds - 1, most):
        lasts = last_amounts(frame, amounts, most)
        if lasts:
            last = lasts[-1] if frame.gain[-1] > 0 else lasts[0]
            point = (amounts + [last], 1)
            if chosen is None or is_better(frame.gain, point, chosen):
                chosen = point
    return chosen


def shared_point(numbers):
    """The point whose amounts are told as fractions, each an upper and a lower above 0."""
    lower = 1
    for own in numbers[1::2]:
        lower = lower * own
    uppers = [upper * (lower // own) for upper, own in zip(numbers[::2], numbers[1::2])]
    return (uppers, lower)


def common_measure(one, other):
    """The greatest number that divides both."""
    while other != 0:
        rest = one % other
        one = other
        other = rest
    return abs(one)


def fraction(upper, lower):
    """The two numbers by which upper over lower (above 0) is told."""
    measure = common_measure(upper, lower)
    return [upper // measure, lower // measure]
