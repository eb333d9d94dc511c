"""Pegs: what ties two pieces, with ways for a tool."""

from stucklots.errors import InvalidName, InvalidWay, TooMany
from stucklots.rounds import mirrored_pair, moved_point, turned_pair
from stucklots.words import is_name, is_way


class Peg:
    """A named peg that ties two pieces by their names, with 0 to 3 ways. It never changes."""

    WAYS = 3

    def __init__(self, name, one, other, ways=()):
        for word in (name, one, other):
            if not is_name(word):
                raise InvalidName(word)
        if one == other:
            raise InvalidName(other)
        check_ways(ways)
        self.name = name
        self.one = min(one, other)
        self.other = max(one, other)
        self._ways = list(ways)

    @property
    def is_glue(self):
        """Whether the peg has no way."""
        return len(self._ways) == 0

    def ways(self):
        """The list of the ways, in the order in which they were passed."""
        return list(self._ways)

    def ties(self, one, other):
        """Whether it ties two pieces with these names, in any order."""
        return [self.one, self.other] in ([one, other], [other, one])

    def with_way(self, way):
        """The peg with a way more, behind the others."""
        return Peg(self.name, self.one, self.other, self._ways + [way])

    def moved(self, right, up):
        """The peg with its ways moved to the right and up; raises OutOfBounds()."""
        return Peg(self.name, self.one, self.other, [moved_way(way, right, up) for way in self._ways])

    def turned(self, quarters=1):
        """The peg with its ways turned by quarters to the left."""
        return Peg(self.name, self.one, self.other, [turned_way(way, quarters) for way in self._ways])

    def mirrored(self):
        """The peg with its ways mirrored."""
        return Peg(self.name, self.one, self.other, [mirrored_way(way) for way in self._ways])

    def __eq__(self, other):
        return (
            isinstance(other, Peg)
            and self.name == other.name
            and self.one == other.one
            and self.other == other.other
            and self._ways == other._ways
        )

    def __len__(self):
        return len(self._ways)

    def __bool__(self):
        # Without this, glue would be false, as its length is 0.
        return True

    def __repr__(self):
        return f"Peg({self.name}, {len(self._ways)} ways)"


def check_ways(ways):
    """Raises the first error that keeps a value from being the ways of a peg."""
    if not isinstance(ways, (list, tuple)):
        raise InvalidWay(-1)
    for at, way in enumerate(ways):
        if not is_way(way):
            raise InvalidWay(at)
    if len(ways) > Peg.WAYS:
        raise TooMany(Peg.WAYS)


def moved_way(way, right, up):
    """The way with its point moved; raises OutOfBounds()."""
    return (moved_point(way[0], right, up), way[1])


def turned_way(way, quarters):
    """The way with its point and its direction turned."""
    return (turned_pair(way[0], quarters), turned_pair(way[1], quarters))


def mirrored_way(way):
    """The way with its point and its direction mirrored."""
    return (mirrored_pair(way[0]), mirrored_pair(way[1]))
