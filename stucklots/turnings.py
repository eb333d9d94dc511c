"""Turnings: what a list of directions takes apart, and the fewest directions that take a thing apart."""

from stucklots.clumps import clumps
from stucklots.compass import compass
from stucklots.lots import Lot
from stucklots.rounds import check_direction, in_second_half
from stucklots.states import State
from stucklots.tables import all_bits, fast_among, group_bits, leaning_bits, names_of, peg_rows, web_bits


def finest_state(thing, directions):
    """The state that is made by a list of directions."""
    for direction in directions:
        check_direction(direction)
    pegs = peg_rows(thing)
    lots = (all_bits(thing),)
    for direction in directions:
        lots = lots_behind(web_bits(thing, direction), pegs, lots)
    return State(thing).with_lots([lot_with(thing, pegs, bits) for bits in lots])


def fewest_turnings(thing):
    """The least number of directions whose finest state is ended."""
    return len(turning_row(thing))


def turning_row(thing):
    """The first of the shortest lists of directions of the compass whose finest state is ended."""
    goal = len(clumps(thing))
    pegs = peg_rows(thing)
    # A direction and the same turned by half part the same, and the first one of both stands ahead in round order.
    webs = {direction: web_bits(thing, direction) for direction in compass(thing) if not in_second_half(direction)}
    # All lists of a length are tried at once, the first one alone of those that lead to the same lots. As they are kept
    # in their order, and a shortest list leads to no lots twice, the first list that is found is the first one of all.
    rows = {(all_bits(thing),): []}
    seen = {}
    while True:
        for lots in rows:
            # No state has more lots than the ended one, and one with as many has the same.
            if len(lots) == goal:
                return rows[lots]
            seen[lots] = True
        rows = rows_behind(webs, pegs, rows, seen)


def rows_behind(webs, pegs, rows, seen):
    """By the lots to which one direction more leads, but for those seen, the first list of directions that does it."""
    found = {}
    for lots in rows:
        for direction in webs:
            further = lots_behind(webs[direction], pegs, lots)
            if further not in seen and further not in found:
                found[further] = rows[lots] + [direction]
    return found


def lots_behind(web, pegs, lots):
    """The ascending tuple of the bits of the lots into which lots fall apart in one direction."""
    return tuple(sorted([bits for lot in lots for bits in fallen_apart(web, pegs, lot)]))


def fallen_apart(web, pegs, lot):
    """The list of the bits of the lots into which a lot is parted, while all pegs are drawn that can be drawn."""
    groups = group_bits(leaning_bits(web, fast_among(pegs, lot), lot), lot)
    if len(groups) == 1:
        return groups
    return [bits for group in groups for bits in fallen_apart(web, pegs, group)]


def lot_with(thing, pegs, bits):
    """The lot of the pieces with some bits, from which all pegs are drawn that can be drawn."""
    return Lot(thing, names_of(thing, bits), fast=[name for name, ties, ways in fast_among(pegs, bits)])
