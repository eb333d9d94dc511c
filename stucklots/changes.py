"""Changes of a thing: what becomes of its clumps and of their stuck papers, and which pegs keep a piece."""

from itertools import combinations

from stucklots.clumps import clump_of, clumps
from stucklots.lots import Lot
from stucklots.singles import kernel_bits
from stucklots.stuck import is_stuck_paper
from stucklots.tables import bits_of, gap_rows, lies_within, peg_rows


def heirs(old, new):
    """By the least name of each clump of old, ascending: the ascending list of the clumps of new that are its heirs."""
    later = clumps(new)
    return {names[0]: [clump for clump in later if share_name(clump[0], names)] for names, pegs in clumps(old)}


def share_name(names, others):
    """Whether some name is among both."""
    return any([name in others for name in names])


def still_holds(old, new, name, paper):
    """Whether a stuck paper of the clump of old with a piece is one in new, too; False for any other value."""
    names, pegs = clump_of(old, name)
    return is_stuck_paper(Lot(old, names, fast=pegs), paper) and are_kept(old, new, names, pegs)


def are_kept(old, new, names, pegs):
    """Whether pieces and pegs of old are the same in new."""
    if not all([name in new and new.piece(name) == old.piece(name) for name in names]):
        return False
    return all([peg in new.peg_names() and new.peg_called(peg) == old.peg_called(peg) for peg in pegs])


def freeing_pegs(thing, name):
    """The list of the least sets of pegs that free a piece, shorter ones first, those with as many names ascending."""
    own = bits_of(thing, [thing.piece(name).name])
    gaps = gap_rows(thing)
    pegs = peg_rows(thing)
    names = thing.peg_names()
    found = []
    for many in range(len(names) + 1):
        for chosen in combinations(names, many):
            left = [row for row in pegs if row[0] not in chosen]
            if not has_part_among(found, chosen) and not lies_within(own, kernel_bits(gaps, left, 0)):
                found.append(chosen)
    return found


def has_part_among(sets, names):
    """Whether one of some sets lies within some names."""
    return any([all([name in names for name in part]) for part in sets])
