"""Parts: convex polygons, told round to the left, and how two of them lie beside one another."""

from stucklots.errors import PartsOverlap
from stucklots.rounds import cross, mirrored_pair, moved_point, reduced, turned_pair
from stucklots.words import is_point

LEAST_CORNERS = 3
MOST_CORNERS = 6


def minus(point, other):
    """The pair that leads from other to point."""
    return (point[0] - other[0], point[1] - other[1])


def dot(one, other):
    """The sum of the products of both numbers of two pairs."""
    return one[0] * other[0] + one[1] * other[1]


def bend(start, stop, point):
    """Above 0 if the point lies to the left of the way from start to stop, 0 if it is in line."""
    return cross(minus(stop, start), minus(point, start))


def is_part(value):
    """Whether any value is a part."""
    if not isinstance(value, tuple) or not LEAST_CORNERS <= len(value) <= MOST_CORNERS:
        return False
    if not all([is_point(corner) for corner in value]):
        return False
    return all([others_lie_left(value[at:] + value[:at]) for at in range(len(value))])


def others_lie_left(corners):
    """Whether all further corners lie to the left of the way from the first one to the second one."""
    start, stop, *others = corners
    return all([bend(start, stop, corner) > 0 for corner in others])


def part_told(part):
    """The part, beginning with its least corner."""
    at = part.index(min(part))
    return part[at:] + part[:at]


def edges(part):
    """The list of the pairs of each corner and the next one."""
    return list(zip(part, part[1:] + part[:1]))


def area_twice(part):
    """The area twice."""
    return sum([cross(corner, following) for corner, following in edges(part)])


def overlap(part, other):
    """Whether the insides of two parts meet."""
    return not has_dividing_edge(part, other) and not has_dividing_edge(other, part)


def has_dividing_edge(part, other):
    """Whether a part has an edge with no corner of the other one to its left."""
    return any([none_lies_left(start, stop, other) for start, stop in edges(part)])


def none_lies_left(start, stop, corners):
    """Whether no corner lies to the left of the way from start to stop."""
    return all([bend(start, stop, corner) <= 0 for corner in corners])


def joined(part, other):
    """Whether two parts do not overlap, and an edge of each share a stretch."""
    if overlap(part, other):
        return False
    return any([share_stretch(edge, beside) for edge in edges(part) for beside in edges(other)])


def share_stretch(edge, beside):
    """Whether two edges have a stretch in common that is longer than 0."""
    start, stop = edge
    if bend(start, stop, beside[0]) != 0 or bend(start, stop, beside[1]) != 0:
        return False
    along = minus(stop, start)
    ends = [dot(along, minus(beside[0], start)), dot(along, minus(beside[1], start))]
    return min(dot(along, along), max(ends)) > max(0, min(ends))


def first_loose(parts):
    """The first index of a part to which joined parts do not lead from the first part, or None."""
    reached = {0: True}
    ahead = [0]
    while ahead:
        here = ahead.pop()
        for at, part in enumerate(parts):
            if at not in reached and joined(parts[here], part):
                reached[at] = True
                ahead.append(at)
    for at in range(len(parts)):
        if at not in reached:
            return at
    return None


def differences(part, other):
    """The ascending list of corners of other minus corners of part, each once, without (0, 0)."""
    return sorted({minus(to, start) for to in other for start in part if to != start})


def side(part, other, direction):
    """A side that shows that other does not bar part in the direction, or None if it does."""
    if overlap(part, other):
        raise PartsOverlap(0, 1)
    return side_of_pairs(differences(part, other), direction)


def side_of_pairs(pairs, direction):
    """A pair whose products are at most 0 with all pairs and at least 0 with the direction, or None."""
    # All pairs that are at most 0 on the pairs make a cone, and its edges stand upright on two of the pairs.
    # What is in the cone is a sum of its edges, so if anything in it serves for the direction, an edge does.
    for x, y in pairs:
        for upright in ((-y, x), (y, -x)):
            if dot(upright, direction) >= 0 and all([dot(upright, pair) <= 0 for pair in pairs]):
                return upright
    return None


def part_span(part, other):
    """The span (start, stop) of the directions in which other bars part; both do not overlap."""
    pairs = differences(part, other)
    # The sum of all differences points into the span, which is at most half of the round: from there the pair that
    # lies farthest to the right is its start, and the one that lies farthest to the left its stop.
    start = stop = (sum([x for x, y in pairs]), sum([y for x, y in pairs]))
    for pair in pairs:
        if cross(start, pair) < 0:
            start = pair
        if cross(stop, pair) > 0:
            stop = pair
    return (reduced(start), reduced(stop))


def part_bars_way(part, way):
    """Whether the ray of a way, without its point, meets the inside of a part."""
    # The ray meets the inside just as a single corner that is carried along it would.
    point, direction = way
    return side_of_pairs(differences((point,), part), direction) is None


def moved_part(part, right, up):
    """The part with all corners moved; raises OutOfBounds()."""
    return tuple([moved_point(corner, right, up) for corner in part])


def turned_part(part, quarters):
    """The part with all corners turned."""
    return tuple([turned_pair(corner, quarters) for corner in part])


def mirrored_part(part):
    """The part with all corners mirrored, told the other way round, as left has become right."""
    return tuple([mirrored_pair(corner) for corner in part[::-1]])
