"""Slow and plain answers about spare parts: over all ways of carrying lots off, in all directions and between, too."""

from reference import with_between
from reference_lots import all_sets
from stucklots.compass import compass, web


class Slow:
    """A thing, with all that can be done with what remains of it, by the words of [26]."""

    def __init__(self, thing, only=None):
        self.thing = thing
        directions = with_between(compass(thing)) if only is None else [only]
        self.webs = {frozenset(web(thing, direction)): direction for direction in directions}

    def first(self):
        return (tuple(self.thing.names()), tuple(self.thing.peg_names()))

    def can_draw(self, peg, names):
        pieces = [self.thing.piece(name) for name in names]
        return any(not any(piece.bars_way(way) for piece in pieces) for way in self.thing.peg_called(peg).ways())

    def can_carry(self, pairs, chosen, rest):
        """Whether a set can leave what remains in a direction with a web."""
        names, pegs = rest
        staying = [name for name in names if name not in chosen]
        barred = any((one, other) in pairs for one in chosen for other in staying)
        tied = any(self.thing.peg_called(peg).ties(one, other) for peg in pegs for one in chosen for other in staying)
        return not barred and not tied

    def behind(self, chosen, rest):
        """What remains behind the carrying off of a set."""
        names, pegs = rest
        tied = [self.thing.peg_called(peg) for peg in pegs]
        return (tuple(name for name in names if name not in chosen),
                tuple(peg.name for peg in tied if peg.one not in chosen and peg.other not in chosen))

    def moves(self, rest):
        """The pairs of a step, and of what remains behind it."""
        names, pegs = rest
        found = [(('draw', peg), (names, tuple(other for other in pegs if other != peg)))
                 for peg in pegs if self.can_draw(peg, names)]
        for chosen in all_sets(names)[1:]:
            for pairs, direction in self.webs.items():
                if self.can_carry(pairs, chosen, rest):
                    found.append((('carry', direction, chosen), self.behind(chosen, rest)))
        return found

    def all_gone(self):
        """All sets that can be gone, shorter ones first, those with as many names ascending."""
        seen, ahead = {self.first()}, [self.first()]
        while ahead:
            for _, behind in self.moves(ahead.pop()):
                if behind not in seen:
                    seen.add(behind)
                    ahead.append(behind)
        rests = {names for names, _ in seen}
        return [gone for gone in all_sets(self.thing.names())
                if tuple(name for name in self.thing.names() if name not in gone) in rests]


def price_of_set(names, prices):
    return sum(prices[name] for name in names)


def least_price(gone, name, prices):
    """The least price of the sets that have a name in them."""
    return min(price_of_set(names, prices) for names in gone if name in names)
