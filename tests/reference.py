"""Slow and plain answers, by other means than those of the package, to hold its answers against."""

from fractions import Fraction
from math import gcd


def edges_of(part):
    return [(part[at - 1], part[at]) for at in range(len(part))]


def left_of(edge, point):
    (a, b), (c, d) = edge
    return (c - a) * (point[1] - b) - (d - b) * (point[0] - a)


def clipped(part, edge):
    """What of a polygon lies to the left of an edge."""
    kept = []
    for start, stop in edges_of(part):
        here, there = left_of(edge, start), left_of(edge, stop)
        if (here > 0 > there) or (here < 0 < there):
            share = Fraction(here) / (here - there)
            kept.append((start[0] + share * (stop[0] - start[0]), start[1] + share * (stop[1] - start[1])))
        if there >= 0:
            kept.append(stop)
    return kept


def shared_area(part, other):
    """Twice the area that two polygons have in common."""
    shared = list(part)
    for edge in edges_of(other):
        shared = clipped(shared, edge) if shared else []
    return abs(sum(p[0] * q[1] - p[1] * q[0] for p, q in edges_of(shared))) if shared else 0


def do_overlap(part, other):
    return shared_area(part, other) > 0


def shared_stretch(edge, other):
    """Whether two edges share a stretch, by the share of the first one at which the second one begins and ends."""
    if left_of(edge, other[0]) != 0 or left_of(edge, other[1]) != 0:
        return False
    axis = 0 if edge[0][0] != edge[1][0] else 1
    whole = edge[1][axis] - edge[0][axis]
    shares = sorted(Fraction(point[axis] - edge[0][axis], whole) for point in other)
    return min(shares[1], 1) > max(shares[0], 0)


def are_joined(part, other):
    found = any(shared_stretch(edge, beside) for edge in edges_of(part) for beside in edges_of(other))
    return found and not do_overlap(part, other)


def moments(part, other, direction):
    """The times at which a corner of one part comes onto the line of an edge of the other one."""
    found = {Fraction(0)}
    u, v = direction
    for corners, edges, sign in ((part, edges_of(other), 1), (other, edges_of(part), -1)):
        for (a, b), (c, d) in edges:
            speed = sign * ((c - a) * v - (d - b) * u)
            if speed != 0:
                found.update(Fraction(-left_of(((a, b), (c, d)), corner)) / speed for corner in corners)
    return sorted(moment for moment in found if moment >= 0)


def bars_part(part, other, direction):
    """Whether other bars part: whether part, carried along, meets it between two moments."""
    times = moments(part, other, direction)
    between = [(early + late) / 2 for early, late in zip(times, times[1:])] + [times[-1] + 1]
    u, v = direction
    return any(do_overlap(tuple((x + t * u, y + t * v) for x, y in part), other) for t in between)


def ray_meets(part, way):
    """Whether the ray of a way has times above 0 within a part: each edge leaves a stretch of times."""
    (x, y), (u, v) = way
    early, late = Fraction(0), None
    for edge in edges_of(part):
        (a, b), (c, d) = edge
        speed, place = (c - a) * v - (d - b) * u, left_of(edge, (x, y))
        if speed == 0 and place <= 0:
            return False
        if speed > 0:
            early = max(early, Fraction(-place, speed))
        elif speed < 0:
            late = Fraction(-place, speed) if late is None else min(late, Fraction(-place, speed))
    return late is None or early < late


def is_side(found, part, other, direction):
    """The words of [10] about a side."""
    m, n = found
    pairs = [(y[0] - x[0], y[1] - x[1]) for y in other for x in part]
    at_most = all(m * x + n * y <= 0 for x, y in pairs)
    return (m, n) != (0, 0) and at_most and m * direction[0] + n * direction[1] >= 0


def turn(direction):
    """How far round to the left a direction lies, in a form that can be compared exactly."""
    u, v = direction
    half = 0 if v > 0 or (v == 0 and u > 0) else 1
    return (half, 0, 0) if v == 0 else (half, 1, -Fraction(u, v))


def arc_has(start, stop, direction):
    """Whether one meets a direction on the way round to the left from start to stop; None, None is the whole arc."""
    if start is None:
        return True
    if start == stop:
        return direction != start
    here, first, last = turn(direction), turn(start), turn(stop)
    if first < last:
        return first < here < last
    return here > first or here < last


def pointing(pair):
    """The direction in which a pair points."""
    divisor = gcd(*pair)
    return (pair[0] // divisor, pair[1] // divisor)


def with_between(directions):
    """Directions in round order, and between each two of them and behind the last one a further one."""
    row = sorted(set(directions) | {(1, 0), (0, 1), (-1, 0), (0, -1)}, key=turn)
    return [found for one, other in zip(row, row[1:] + row[:1])
            for found in (one, pointing((one[0] + other[0], one[1] + other[1])))]


def bars_piece(piece, other, direction):
    """Whether some part of other bars some part of piece, by carrying it along."""
    return any(bars_part(part, beside, direction) for part in piece.parts() for beside in other.parts())
