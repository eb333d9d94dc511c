"""Slow and plain answers about lots: over all their sets, all their rows and all pairs of their pieces."""

import itertools

from reference import with_between
from stucklots.bars import bars
from stucklots.compass import compass


def leaning_pairs(lot, direction):
    """All pairs of names of a lot of which the first one leans on the second one."""
    thing = lot.thing
    pegs = [thing.peg_called(peg) for peg in lot.pegs()]
    return {(one, other) for one, other in itertools.permutations(lot.names(), 2)
            if bars(thing.piece(one), thing.piece(other), direction) or any(peg.ties(one, other) for peg in pegs)}


def all_sets(names):
    """All sets of some names, as ascending tuples, shorter ones first, those with as many names ascending."""
    return [chosen for many in range(len(names) + 1) for chosen in itertools.combinations(sorted(names), many)]


def sets_that_leave(lot, direction):
    """All sets of a lot that can leave, nothing and all included."""
    pairs = leaning_pairs(lot, direction)
    return [chosen for chosen in all_sets(lot.names())
            if not any(one in chosen and other not in chosen for one, other in pairs)]


def least_set(sets, name):
    """What all sets with a name have in common."""
    found = [set(chosen) for chosen in sets if name in chosen]
    return tuple(sorted(set.intersection(*found)))


def all_groups(lot, sets):
    """The groups: names with the same least sets."""
    by_set = {}
    for name in lot.names():
        by_set.setdefault(least_set(sets, name), []).append(name)
    return sorted(tuple(names) for names in by_set.values())


def all_rows(lot, direction):
    """All rows of groups, ascending: the orders in which each beginning can leave."""
    sets = sets_that_leave(lot, direction)
    rows = []
    for row in itertools.permutations(all_groups(lot, sets)):
        beginnings = [tuple(sorted(name for group in row[:many] for name in group)) for many in range(len(row))]
        if all(beginning in sets for beginning in beginnings):
            rows.append(list(row))
    return sorted(rows)


def free_pegs(lot):
    """The fast pegs of a lot that have a way which no piece of it bars."""
    pieces = [lot.thing.piece(name) for name in lot.names()]
    pegs = [lot.thing.peg_called(name) for name in lot.pegs()]
    return [peg.name for peg in pegs if any(not any(piece.bars_way(way) for piece in pieces) for way in peg.ways())]


def lot_is_stuck(lot):
    """Whether no peg can be drawn, and in no direction, of the compass or between, a set can leave."""
    directions = with_between(compass(lot.thing, lot.names()))
    return not free_pegs(lot) and all(len(sets_that_leave(lot, direction)) == 2 for direction in directions)


def all_offers(state):
    """The offers of a state by the words of [15]."""
    offers = [('draw', peg) for peg in sorted(peg for lot in state.lots() for peg in free_pegs(lot))]
    for lot in state.lots():
        for direction in compass(state.thing, lot.names()):
            sets = sets_that_leave(lot, direction)
            for name in lot.names():
                step = ('part', direction, least_set(sets, name))
                if step[2] != tuple(lot.names()) and step not in offers:
                    offers.append(step)
    return offers
