"""In which directions parts and pieces bar one another."""

from stucklots.arcs import arc_with
from stucklots.errors import PartsOverlap, PiecesOverlap
from stucklots.parts import overlap, part_span, side
from stucklots.pieces import piece_span
from stucklots.rounds import check_direction, in_span


def part_arc(part, other):
    """The arc of the directions in which a part other bars a part; raises PartsOverlap(0, 1)."""
    if overlap(part, other):
        raise PartsOverlap(0, 1)
    return arc_with(part_span(part, other))


def arc_of(piece, other):
    """The arc of the directions in which a piece other bars a piece; raises PiecesOverlap(one, other)."""
    return arc_with(checked_span(piece, other))


def bars(piece, other, direction):
    """Whether other bars piece in a direction; raises PiecesOverlap(one, other), InvalidDirection(direction)."""
    span = checked_span(piece, other)
    check_direction(direction)
    return in_span(span, direction)


def sides(piece, other, direction):
    """The list of (i, j, side) for each two parts, or None if other bars piece; raises as bars."""
    if bars(piece, other, direction):
        return None
    found = []
    for i, part in enumerate(piece.parts()):
        for j, beside in enumerate(other.parts()):
            found.append((i, j, side(part, beside, direction)))
    return found


def checked_span(piece, other):
    """The span of the directions in which other bars piece; raises PiecesOverlap(one, other)."""
    if piece.overlaps(other):
        raise PiecesOverlap(piece.name, other.name)
    return piece_span(piece, other)
