"""Slow and plain answers about pieces that leave one by one: over all orders, and all directions between the ends, too."""

import itertools

from reference import with_between
from stucklots.compass import compass, web


class Slow:
    """A thing, with all that can be done with what remains of it, by the words of [19]."""

    def __init__(self, thing):
        self.thing = thing
        self.webs = [set(web(thing, direction)) for direction in with_between(compass(thing))]

    def first(self):
        return (tuple(self.thing.names()), tuple(self.thing.peg_names()))

    def is_free(self, name, names):
        """Whether some direction is free for a piece among names."""
        return any(not any((name, other) in pairs for other in names) for pairs in self.webs)

    def is_tied(self, name, names, pegs):
        """Whether one of some pegs ties a piece to another one of names."""
        tied = [self.thing.peg_called(peg) for peg in pegs]
        return any(peg.ties(name, other) for peg in tied for other in names if other != name)

    def can_draw(self, peg, names):
        pieces = [self.thing.piece(name) for name in names]
        return any(not any(piece.bars_way(way) for piece in pieces) for way in self.thing.peg_called(peg).ways())

    def moves(self, rest, held):
        """The pairs of what can be done, ('draw', peg) or ('leave', name), and of what remains behind it."""
        names, pegs = rest
        found = []
        for peg in pegs:
            if self.can_draw(peg, names):
                found.append((('draw', peg), (names, tuple(other for other in pegs if other != peg))))
        for name in names:
            if name not in held and self.is_free(name, names) and not self.is_tied(name, names, pegs):
                found.append((('leave', name), (tuple(other for other in names if other != name), pegs)))
        return found

    def all_ends(self, held=()):
        """The set of all that can remain at the end, over all orders."""
        ends, seen, ahead = set(), set(), [self.first()]
        while ahead:
            rest = ahead.pop()
            if rest in seen:
                continue
            seen.add(rest)
            moves = self.moves(rest, held)
            ahead += [behind for _, behind in moves]
            if not moves:
                ends.add(rest)
        return ends

    def drawn(self, rest, held):
        """What remains when all pegs are drawn that can be drawn."""
        for (what, _), behind in self.moves(rest, held):
            if what == 'draw':
                return self.drawn(behind, held)
        return rest

    def all_rows(self, held=()):
        """The set of all rows, the empty one and the full ones included."""
        rows = set()
        ahead = [((), self.first())]
        while ahead:
            row, rest = ahead.pop()
            rows.add(row)
            for (what, name), behind in self.moves(self.drawn(rest, held), held):
                ahead.append((row + (name,), behind))
        return rows

    def full_rows(self, held=()):
        """All full rows, ascending."""
        rows = self.all_rows(held)
        most = max(len(row) for row in rows)
        return sorted(list(row) for row in rows if len(row) == most)

    def doors(self, name):
        """All least sets of other pieces behind which a piece can leave, with all pegs fast."""
        others = [other for other in self.thing.names() if other != name]
        found = []
        for many in range(len(others) + 1):
            for gone in itertools.combinations(others, many):
                rest = [other for other in self.thing.names() if other not in gone]
                free = self.is_free(name, rest) and not self.is_tied(name, rest, self.thing.peg_names())
                if free and not any(set(door) <= set(gone) for door in found):
                    found.append(gone)
        return found

    def is_open(self, name, gone):
        """Whether a piece can leave when some pieces have gone and no peg is drawn."""
        rest = [other for other in self.thing.names() if other not in gone]
        return self.is_free(name, rest) and not self.is_tied(name, rest, self.thing.peg_names())


def all_held(thing):
    """All sets of held pieces."""
    return [held for many in range(len(thing) + 1) for held in itertools.combinations(thing.names(), many)]
