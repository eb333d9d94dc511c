"""A thing told by bits, for looking at many sets of its pieces.

The piece with an index among the names has the bit 1 << index, and a set of pieces is told by its bits. A peg is told
by a row (name, ties, ways): the bits of its two pieces, and for each way the bits of the pieces that bar it. A web is
told by the list of the bits of what bars each piece.
"""

from stucklots.compass import FIRST_DIRECTION
from stucklots.rows import has_bit


def all_bits(thing):
    """The bits of all pieces."""
    return (1 << len(thing)) - 1


def bits_of(thing, names):
    """The bits of some names."""
    return sum([1 << at for at, name in enumerate(thing.names()) if name in names])


def names_of(thing, bits):
    """The ascending tuple of the names with some bits."""
    return tuple([name for at, name in enumerate(thing.names()) if has_bit(bits, at)])


def indexes_of(bits):
    """The ascending list of the indexes with some bits."""
    return [at for at in range(bits.bit_length()) if has_bit(bits, at)]


def lies_within(bits, others):
    """Whether all of some bits are among others."""
    return (bits & others) == bits


def without(bits, others):
    """The bits that are not among others."""
    return bits - (bits & others)


def least_among(sets):
    """The ascending list of those sets of which no smaller part is among the sets, each once."""
    return sorted({bits for bits in sets if not any([lies_within(other, bits) and other != bits for other in sets])})


def shorter_first(names):
    """The key by which sets are told: shorter ones first, those with as many names ascending."""
    return (len(names), names)


def sets_told(thing, sets):
    """The list of sets as ascending tuples of names, shorter ones first."""
    return sorted([names_of(thing, bits) for bits in sets], key=shorter_first)


def peg_rows(thing):
    """The rows of the pegs, by ascending names."""
    return [(peg.name, bits_of(thing, [peg.one, peg.other]), way_bits(thing, peg.name)) for peg in thing.pegs()]


def way_bits(thing, peg):
    """For each way of a peg the bits of the pieces that bar it."""
    return [bits_of(thing, names) for names in thing.barring(peg)]


def stays_fast(row, rest):
    """Whether a peg is fast when pegs have been drawn as long as one can be, while some pieces remain."""
    name, ties, ways = row
    return lies_within(ties, rest) and all([(bars & rest) != 0 for bars in ways])


def fast_among(pegs, rest):
    """The rows of those pegs that stay fast while some pieces remain."""
    # What can be drawn can still be drawn when more has gone, so it means nothing when pegs are drawn.
    return [row for row in pegs if stays_fast(row, rest)]


def tied_bits(pegs, at):
    """The bits of the pieces that pegs tie to a piece, and its own bit if there are any."""
    found = 0
    for name, ties, ways in pegs:
        if has_bit(ties, at):
            found = found | ties
    return found


def barring_bits(thing, name, direction):
    """The bits of the pieces that bar a piece in a direction."""
    return bits_of(thing, [other for other in thing.names() if thing.is_barred(name, other, direction)])


def web_bits(thing, direction):
    """The web of a direction."""
    return [barring_bits(thing, name, direction) for name in thing.names()]


def leaning_bits(web, pegs, rest):
    """For each piece the bits of what it leans on of the pieces that remain, with fast pegs."""
    return [(bars | tied_bits(pegs, at)) & rest for at, bars in enumerate(web)]


def reached_bits(leaning, at):
    """The bits of all pieces that a piece reaches."""
    found = 0
    fresh = 1 << at
    while fresh != 0:
        found = found | fresh
        further = 0
        for index in indexes_of(fresh):
            further = further | leaning[index]
        fresh = without(further, found)
    return found


def group_bits(leaning, rest):
    """The ascending list of the bits of each group of the pieces that remain."""
    reach = {at: reached_bits(leaning, at) for at in indexes_of(rest)}
    return sorted({sum([1 << other for other in reach if has_bit(reach[at], other) and has_bit(reach[other], at)])
                   for at in reach})


def gaps_of(thing, name):
    """The least of the sets of pieces that bar a piece in one direction: without them it is free there."""
    # The directions that are free for a piece, if there are any but not all, end where the arc of another piece ends.
    ends = [end for other in thing.names() if other != name for end in thing.span(name, other)]
    return least_among([barring_bits(thing, name, direction) for direction in [FIRST_DIRECTION] + ends])


def gap_rows(thing):
    """The gaps of each piece."""
    return [gaps_of(thing, name) for name in thing.names()]


def free_alone(gaps, pegs, rest):
    """The ascending indexes of the pieces that can leave alone what remains, when all pegs are drawn that can be."""
    fast = fast_among(pegs, rest)
    return [at for at in indexes_of(rest)
            if any([(bars & rest) == 0 for bars in gaps[at]]) and tied_bits(fast, at) == 0]
