"""Pieces that leave one by one: what remains, the rows in which they leave, and doors."""

from stucklots.errors import InvalidNumber, InvalidRow, NeverLeaves
from stucklots.lots import Lot
from stucklots.rows import first_wrong, has_bit, index_of_row, indexes_in, row_count_of, row_with_index
from stucklots.tables import all_bits, bits_of, fast_among, free_alone, gap_rows, gaps_of, least_among, names_of
from stucklots.tables import peg_rows, sets_told, tied_bits, without
from stucklots.words import is_number


def kernel(thing, *, held=()):
    """The pair of the ascending lists of the names of the pieces and of the fast pegs that remain."""
    check_held(thing, held)
    pegs = peg_rows(thing)
    rest = kernel_bits(gap_rows(thing), pegs, bits_of(thing, held))
    return (list(names_of(thing, rest)), [name for name, ties, ways in fast_among(pegs, rest)])


def emptied(thing, *, held=()):
    """The list of what is done by the habit."""
    check_held(thing, held)
    done = []
    lot = Lot(thing)
    step = habit_step(lot, held)
    while step is not None:
        done.append(step)
        lot = lot_behind(lot, step)
        step = habit_step(lot, held)
    return done


def is_row(thing, names, *, held=()):
    """Whether any value is a list or tuple that is a row."""
    check_held(thing, held)
    if not isinstance(names, (list, tuple)):
        return False
    return first_wrong(free_singles(thing, held), indexes_in(thing.names(), names)) is None


def row_count(thing, *, held=()):
    """How many full rows there are."""
    check_held(thing, held)
    return row_count_of(free_singles(thing, held))


def full_row(thing, index, *, held=()):
    """The full row with an index."""
    check_held(thing, held)
    free = free_singles(thing, held)
    if not is_number(index, 0, row_count_of(free) - 1):
        raise InvalidNumber(index)
    names = thing.names()
    return [names[at] for at in row_with_index(free, index)]


def full_index(thing, names, *, held=()):
    """The index of a full row."""
    check_held(thing, held)
    free = free_singles(thing, held)
    # All full rows have the same pieces, so each one tells how many there are.
    if not isinstance(names, (list, tuple)) or len(names) != len(row_with_index(free, 0)):
        raise InvalidRow(-1)
    order = indexes_in(thing.names(), names)
    wrong = first_wrong(free, order)
    if wrong is not None:
        raise InvalidRow(wrong)
    return index_of_row(free, order)


def surely_before(thing, one, other):
    """Whether the piece one stands ahead of the piece other in each full row."""
    thing.piece(one)
    thing.piece(other)
    if other in kernel(thing)[0]:
        raise NeverLeaves(other)
    return one != other and other in kernel(thing, held=[one])[0]


def doors(thing, name):
    """The list of the doors of a piece, shorter ones first, those with as many names ascending."""
    own = bits_of(thing, [thing.piece(name).name])
    tied = without(tied_bits(peg_rows(thing), own.bit_length() - 1), own)
    return sets_told(thing, least_among([bars | tied for bars in gaps_of(thing, name)]))


def check_held(thing, held):
    """Raises UnknownName(name) with the first item that is no name of a piece."""
    for name in held:
        thing.piece(name)


def kernel_bits(gaps, pegs, held):
    """The bits of the pieces that remain at the end, by the gaps of all pieces, the rows of pegs and what is held."""
    rest = (1 << len(gaps)) - 1
    going = free_not_held(gaps, pegs, rest, held)
    while going:
        # All that can leave can still leave when one of them has left.
        rest = rest - sum([1 << at for at in going])
        going = free_not_held(gaps, pegs, rest, held)
    return rest


def free_not_held(gaps, pegs, rest, held):
    """The ascending indexes of the pieces that can leave alone what remains, without those that are held."""
    return [at for at in free_alone(gaps, pegs, rest) if not has_bit(held, at)]


def free_singles(thing, held):
    """By the bits of the pieces that have left, the ascending indexes of those that can leave next."""
    gaps = gap_rows(thing)
    pegs = peg_rows(thing)
    staying = bits_of(thing, held)
    everything = all_bits(thing)
    return [free_not_held(gaps, pegs, everything - gone, staying) for gone in range(everything + 1)]


def habit_step(lot, held):
    """What is done next by the habit, when the pieces and the fast pegs of a lot remain; None if nothing goes."""
    if lot is None:
        return None
    draws = lot.draws()
    if draws:
        return draws[0]
    leanings = [(direction, lot.leaning(direction)) for direction in lot.compass()]
    for name in lot.names():
        for direction, leaning in leanings:
            if name not in held and not leaning[name]:
                return ("leave", direction, name)
    return None


def lot_behind(lot, step):
    """What remains behind something that is done, as a lot; None if nothing remains."""
    if step[0] == "draw":
        return lot.drawn(step[1])
    names = [name for name in lot.names() if name != step[2]]
    return lot.part_of(names) if names else None
