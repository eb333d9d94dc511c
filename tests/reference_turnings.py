"""Slow and plain answers about directions one behind the other, by the words of [25]."""

import itertools

from reference_lots import all_groups, free_pegs, sets_that_leave
from stucklots.clumps import ended_state
from stucklots.compass import compass
from stucklots.lots import Lot


def with_drawn(lot):
    """A lot from which all pegs are drawn that can be drawn."""
    free = free_pegs(lot)
    return Lot(lot.thing, lot.names(), fast=[peg for peg in lot.pegs() if peg not in free])


def part_of(lot, names):
    """The lot of some pieces of a lot, with the fast pegs that tie them."""
    pegs = [lot.thing.peg_called(peg) for peg in lot.pegs()]
    return Lot(lot.thing, names, fast=[peg.name for peg in pegs if peg.one in names and peg.other in names])


def in_order(lots):
    return sorted(lots, key=lambda lot: lot.names())


def told(lots):
    return [lot.told() for lot in lots]


class Slow:
    """A thing, with what a direction makes of some lots."""

    def __init__(self, thing):
        self.thing = thing
        self.known = {}

    def first(self):
        return [with_drawn(Lot(self.thing))]

    def behind(self, lots, direction):
        """The lots behind one direction more: parted and drawn again and again, until nothing changes."""
        key = (tuple(told(lots)), direction)
        if key not in self.known:
            further = in_order(with_drawn(part_of(lot, group)) for lot in lots
                               for group in all_groups(lot, sets_that_leave(lot, direction)))
            self.known[key] = lots if told(further) == told(lots) else self.behind(further, direction)
        return self.known[key]

    def finest(self, directions):
        """The pairs of names and fast pegs of all lots of the finest state."""
        lots = self.first()
        for direction in directions:
            lots = self.behind(lots, direction)
        return told(lots)

    def first_row(self):
        """The first list of the least length, over all lists of directions of the compass."""
        ended = told(ended_state(self.thing).lots())
        for many in itertools.count():
            for directions in itertools.product(compass(self.thing), repeat=many):
                if self.finest(directions) == ended:
                    return list(directions)
