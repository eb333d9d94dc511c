"""Points, parts and ways that are moved, turned and mirrored."""

from stucklots.errors import OutOfBounds
from stucklots.words import is_point


def moved_point(point, right, up):
    """The point moved to the right and up; raises OutOfBounds() if it would be no point."""
    place = (point[0] + right, point[1] + up)
    if not is_point(place):
        raise OutOfBounds()
    return place


def turned_pair(pair, quarters):
    """A point or a direction turned by quarters to the left about (0, 0)."""
    # The bounds are the same on all sides, so nothing that is turned or mirrored gets beyond them.
    x, y = pair
    for _ in range(quarters % 4):
        x, y = -y, x
    return (x, y)


def mirrored_pair(pair):
    """A point or a direction mirrored."""
    return (-pair[0], pair[1])


def moved_part(part, right, up):
    """The part with all corners moved."""
    return tuple([moved_point(corner, right, up) for corner in part])


def turned_part(part, quarters):
    """The part with all corners turned."""
    return tuple([turned_pair(corner, quarters) for corner in part])


def mirrored_part(part):
    """The part with all corners mirrored, told the other way round, as left has become right."""
    return tuple([mirrored_pair(corner) for corner in part[::-1]])


def moved_way(way, right, up):
    """The way with its point moved."""
    return (moved_point(way[0], right, up), way[1])


def turned_way(way, quarters):
    """The way with its point and its direction turned."""
    return (turned_pair(way[0], quarters), turned_pair(way[1], quarters))


def mirrored_way(way):
    """The way with its point and its direction mirrored."""
    return (mirrored_pair(way[0]), mirrored_pair(way[1]))
