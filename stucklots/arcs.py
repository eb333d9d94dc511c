"""Arcs: sets of directions with two ends, with one, or all round."""

from stucklots.errors import NoJoining
from stucklots.rounds import check_direction, in_span, joined_span, span_between, spans_meet, turned_span
from stucklots.words import is_direction


class NoEnd:
    """Stands for both ends of the whole arc, which has none."""


class Arc:
    """An arc of directions. It never changes."""

    def __init__(self, start, stop):
        if isinstance(start, NoEnd):
            self._span = ()
        else:
            check_direction(start)
            check_direction(stop)
            self._span = span_between(start, stop)

    @classmethod
    def whole(cls):
        """The whole arc."""
        return cls(NoEnd(), NoEnd())

    @property
    def start(self):
        """The end at the right, None for the whole arc."""
        return self._span[0] if self._span else None

    @property
    def stop(self):
        """The end at the left, None for the whole arc."""
        return self._span[-1] if self._span else None

    @property
    def is_whole(self):
        """Whether it is the whole arc."""
        return len(self._span) == 0

    def ends(self):
        """The list of its different ends, start first."""
        return list(self._span)

    def __contains__(self, direction):
        return is_direction(direction) and in_span(self._span, direction)

    def turned(self):
        """The arc turned by half."""
        return arc_with(turned_span(self._span))

    def covers(self, other):
        """Whether it has all directions of another arc."""
        # It does exactly if the other arc adds nothing to it.
        return spans_meet(self._span, other._span) and joined_span([self._span, other._span]) == self._span

    def __or__(self, other):
        if not isinstance(other, Arc) or not spans_meet(self._span, other._span):
            raise NoJoining()
        return arc_with(joined_span([self._span, other._span]))

    def __eq__(self, other):
        return isinstance(other, Arc) and self._span == other._span

    def __len__(self):
        return len(self._span)

    def __bool__(self):
        # Without this, the whole arc would be false, as its length is 0.
        return True

    def __repr__(self):
        if self.is_whole:
            return "Arc(whole)"
        return f"Arc({self.start} to {self.stop})"


def arc_with(span):
    """The arc that a span tells."""
    return Arc(span[0], span[-1]) if span else Arc.whole()
