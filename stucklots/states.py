"""States: a thing divided into lots, and the steps that take it apart and build it."""

from stucklots.errors import Held, InvalidStep, NoJoining, NoParting, OtherThing
from stucklots.lots import Lot, check_not_barred
from stucklots.rounds import turned_half
from stucklots.words import is_direction, is_name, is_name_row


class State:
    """A state of a thing; a new one is the first state. It never changes."""

    def __init__(self, thing):
        self.thing = thing
        self._lots = [Lot(thing)]

    def lots(self):
        """The list of the lots, in the order of their least names."""
        return list(self._lots)

    def fast(self):
        """The ascending list of the names of the fast pegs."""
        return sorted([peg for lot in self._lots for peg in lot.pegs()])

    def lot_of(self, name):
        """The lot with a piece."""
        piece = self.thing.piece(name)
        found = [lot for lot in self._lots if piece.name in lot]
        return found[0]

    def offers(self):
        """The list of the steps that are offered."""
        draws = sorted([step for lot in self._lots for step in lot.draws()])
        return draws + [step for lot in self._lots for step in lot.partings()]

    def is_ended(self):
        """Whether all lots are stuck."""
        return all([lot.is_stuck() for lot in self._lots])

    def after(self, step):
        """The state behind a step."""
        if not is_step(step):
            raise InvalidStep()
        if step[0] == "part":
            return self._parted(step[1], step[2])
        return self._drawn(step[1])

    def _parted(self, direction, names):
        """The state behind a parting."""
        lots = [self.lot_of(name) for name in names]
        if not all([name in lots[0] for name in names]):
            raise NoParting()
        return self.with_lots(list(lots[0].parted(direction, names)))

    def _drawn(self, peg):
        """The state behind the drawing of a peg."""
        # If the peg is fast, both its pieces are in one lot.
        lot = self.lot_of(self.thing.peg_called(peg).one)
        return self.with_lots([lot.drawn(peg)])

    def built(self, step):
        """The state behind a building step."""
        if not is_building_step(step):
            raise InvalidStep()
        if step[0] == "join":
            return self._joined(step[1], step[2], step[3])
        return self._pegged(step[1])

    def _joined(self, direction, names, others):
        """The state in which the lot of names has come in a direction to the lot of others."""
        lots = [self.lot_of(name) for name in names + others]
        coming = lots[0]
        staying = lots[-1]
        if coming.names() != list(names) or staying.names() != list(others) or names == others:
            raise NoJoining()
        check_not_barred(self.thing, names, others, turned_half(direction))
        return self.with_lots([coming | staying])

    def _pegged(self, name):
        """The state in which a peg is fast."""
        peg = self.thing.peg_called(name)
        lot = self.lot_of(peg.one)
        if name in lot.pegs() or peg.other not in lot:
            raise NoJoining()
        if not lot.has_free_way(name):
            raise Held(name)
        return self.with_lots([Lot(self.thing, lot.names(), fast=lot.pegs() + [name])])

    def with_lots(self, fresh):
        """The state with fresh lots in place of those that have their pieces."""
        changed = [name for lot in fresh for name in lot.names()]
        kept = [lot for lot in self._lots if lot.names()[0] not in changed]
        state = State(self.thing)
        state._lots = sorted(kept + fresh, key=least_name)
        return state

    def is_finer(self, other):
        """Whether it is finer than another state, or the same."""
        if not isinstance(other, State) or self.thing != other.thing:
            raise OtherThing()
        # Each fast peg ties pieces of one lot, so it is fast in the other state exactly if it is in the lot around.
        return all([lot.within(other.lot_of(lot.names()[0])) for lot in self._lots])

    def told(self):
        """The list of the pairs of the names and the fast pegs of all lots."""
        return [lot.told() for lot in self._lots]

    def __eq__(self, other):
        return isinstance(other, State) and self.thing == other.thing and self.told() == other.told()

    def __len__(self):
        return len(self._lots)

    def __repr__(self):
        return f"State({len(self._lots)} lots)"


def least_name(lot):
    """The least name of a lot."""
    return lot.names()[0]


def is_set_step(value, word):
    """Whether any value is a tuple of a word, a direction and names."""
    if not isinstance(value, tuple) or len(value) != 3:
        return False
    return value[0] == word and is_direction(value[1]) and is_name_row(value[2])


def is_peg_step(value, word):
    """Whether any value is a tuple of a word and a name."""
    return isinstance(value, tuple) and len(value) == 2 and value[0] == word and is_name(value[1])


def is_step(value):
    """Whether any value is a tuple of the form of a step."""
    return is_set_step(value, "part") or is_peg_step(value, "draw")


def is_building_step(value):
    """Whether any value is a tuple of the form of a building step."""
    if isinstance(value, tuple) and len(value) == 4:
        return is_set_step(value[:3], "join") and is_name_row(value[3])
    return is_peg_step(value, "peg")
