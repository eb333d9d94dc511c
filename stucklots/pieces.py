"""Pieces: a name and parts that hang together."""

from stucklots.errors import InvalidName, InvalidPart, Loose, PartsOverlap, TooMany
from stucklots.parts import area_twice, first_loose, is_part, mirrored_part, moved_part, overlap, part_bars_way
from stucklots.parts import part_span, part_told, turned_part
from stucklots.rounds import joined_span
from stucklots.words import is_name


class Piece:
    """A named piece of 1 to 4 parts. It never changes."""

    PARTS = 4

    def __init__(self, name, parts):
        if not is_name(name):
            raise InvalidName(name)
        check_parts(parts)
        self.name = name
        self._parts = sorted([part_told(part) for part in parts])

    @property
    def area(self):
        """The area twice of all parts together."""
        return sum([area_twice(part) for part in self._parts])

    def parts(self):
        """The ascending list of the parts as they are told."""
        return list(self._parts)

    def overlaps(self, other):
        """Whether a part of this piece overlaps a part of another one."""
        return any([overlap(part, beside) for part in self._parts for beside in other.parts()])

    def moved(self, right, up):
        """The piece moved to the right and up; raises OutOfBounds()."""
        return Piece(self.name, [moved_part(part, right, up) for part in self._parts])

    def turned(self, quarters=1):
        """The piece turned by quarters to the left."""
        return Piece(self.name, [turned_part(part, quarters) for part in self._parts])

    def mirrored(self):
        """The piece mirrored."""
        return Piece(self.name, [mirrored_part(part) for part in self._parts])

    def bars_way(self, way):
        """Whether the piece bars a way."""
        return any([part_bars_way(part, way) for part in self._parts])

    def __eq__(self, other):
        return isinstance(other, Piece) and self.name == other.name and self._parts == other._parts

    def __len__(self):
        return len(self._parts)

    def __repr__(self):
        return f"Piece({self.name}, {len(self._parts)} parts)"


def check_parts(parts):
    """Raises the first error that keeps a value from being the parts of a piece."""
    if not isinstance(parts, (list, tuple)) or len(parts) == 0:
        raise InvalidPart(-1)
    for at, part in enumerate(parts):
        if not is_part(part):
            raise InvalidPart(at)
    if len(parts) > Piece.PARTS:
        raise TooMany(Piece.PARTS)
    for one in range(len(parts)):
        for other in range(one + 1, len(parts)):
            if overlap(parts[one], parts[other]):
                raise PartsOverlap(one, other)
    loose = first_loose(parts)
    if loose is not None:
        raise Loose(loose)


def piece_span(piece, other):
    """The span of the directions in which other bars piece; both do not overlap."""
    # As the parts of a piece hang together, the spans of all parts make one arc.
    return joined_span(sorted({part_span(part, beside) for part in piece.parts() for beside in other.parts()}))
