"""Pairs of numbers: how they are turned, mirrored and moved, the round order of directions, and spans of them.

A span tells an arc by its different ends: () the whole arc, (end,) all directions but this one, and (start, stop) those
that are met to the left of start, ahead of stop.
"""

from math import gcd

from stucklots.errors import InvalidDirection, OutOfBounds
from stucklots.words import is_direction, is_number_pair, is_point


def check_direction(value):
    """Raises InvalidDirection(value) for any value that is no direction."""
    if not is_direction(value):
        raise InvalidDirection(value)


def cross(one, other):
    """The cross of two pairs of numbers; above 0 if other lies to the left of one."""
    return one[0] * other[1] - one[1] * other[0]


def turned_half(direction):
    """The direction turned by half."""
    return (-direction[0], -direction[1])


def turned_pair(pair, quarters):
    """A point or a direction turned by quarters to the left about (0, 0)."""
    # The bounds are the same on all sides, so nothing that is turned or mirrored gets beyond them.
    x, y = pair
    for _ in range(quarters % 4):
        x, y = -y, x
    return (x, y)


def mirrored_pair(pair):
    """A point or a direction mirrored."""
    return (-pair[0], pair[1])


def moved_point(point, right, up):
    """The point moved to the right and up; raises OutOfBounds() if it would be no point."""
    place = (point[0] + right, point[1] + up)
    if not is_point(place):
        raise OutOfBounds()
    return place


def reduced(pair):
    """The direction in which a pair of numbers points."""
    if not is_number_pair(pair) or pair == (0, 0):
        raise InvalidDirection(pair)
    divisor = gcd(pair[0], pair[1])
    direction = (pair[0] // divisor, pair[1] // divisor)
    if not is_direction(direction):
        raise InvalidDirection(pair)
    return direction


def in_second_half(direction):
    """Whether a direction stands in the half of the round that begins with (-1, 0)."""
    return direction[1] < 0 or (direction[1] == 0 and direction[0] < 0)


def stands_ahead(one, other):
    """Whether a direction stands ahead of another one in round order."""
    if in_second_half(one) != in_second_half(other):
        return in_second_half(other)
    return cross(one, other) > 0


def place_in_round(row, direction):
    """How many directions of a row in round order stand ahead of a direction."""
    low = 0
    high = len(row)
    while low < high:
        middle = (low + high) // 2
        if stands_ahead(row[middle], direction):
            low = middle + 1
        else:
            high = middle
    return low


def in_round(directions):
    """The list of directions in round order, each once."""
    row = []
    for direction in directions:
        at = place_in_round(row, direction)
        if row[at:at + 1] != [direction]:
            row.insert(at, direction)
    return row


def next_in_round(directions, direction):
    """The direction itself if it is in the list, otherwise the next one of the list behind it."""
    if not is_direction(direction) or len(directions) == 0:
        raise InvalidDirection(direction)
    row = in_round(directions)
    at = place_in_round(row, direction)
    return row[at] if at < len(row) else row[0]


def span_between(start, stop):
    """The span with two ends, which may be equal."""
    return (start,) if start == stop else (start, stop)


def turned_span(span):
    """The span turned by half."""
    return tuple([turned_half(end) for end in span])


def in_span(span, direction):
    """Whether a direction, whatever its numbers, is in a span."""
    if len(span) < 2:
        return direction not in span
    start, stop = span
    left_of_start = cross(start, direction) > 0
    right_of_stop = cross(direction, stop) > 0
    # Beyond half of the round, what lies to the left of start and what lies to the right of stop make up the span.
    if cross(start, stop) < 0:
        return left_of_start or right_of_stop
    return left_of_start and right_of_stop


def in_any_span(spans, direction):
    """Whether a direction is in one of some spans."""
    return any([in_span(span, direction) for span in spans])


def spans_meet(span, other):
    """Whether some direction, whatever its numbers, is in both spans."""
    if len(span) < 2 or len(other) < 2:
        return True
    return span[0] == other[0] or in_span(span, other[0]) or in_span(other, span[0])


def joined_span(spans):
    """The span of all directions of some spans, which together are one arc."""
    # An end of one span is an end of all together exactly if no span has it.
    starts = [span[0] for span in spans if span and not in_any_span(spans, span[0])]
    stops = [span[-1] for span in spans if span and not in_any_span(spans, span[-1])]
    return span_between(starts[0], stops[0]) if starts else ()
