"""Spare parts: lots are carried off one behind the other, until a piece that is wanted is among them."""

from stucklots.compass import compass
from stucklots.errors import InvalidPrices, InvalidStep
from stucklots.lots import Lot
from stucklots.rounds import check_direction
from stucklots.states import is_peg_step, is_set_step
from stucklots.tables import all_bits, fast_among, indexes_of, leaning_bits, lies_within, names_of, peg_rows
from stucklots.tables import reached_bits, sets_told, web_bits, without
from stucklots.words import is_number

MOST_PRICE = 99


def price_of(thing, name, prices, *, only=None):
    """The price of a piece; with a direction as only, of steps in which all carrying goes in this direction."""
    check_wanted(thing, name, prices, only)
    return least_price(sets_off(thing, ways_off(thing, only)), name, prices)


def fetched(thing, name, prices, *, only=None):
    """A list of steps of the price of a piece, the last of which carries off a set with the piece in it."""
    check_wanted(thing, name, prices, only)
    ways = ways_off(thing, only)
    sets = sets_off(thing, ways)
    least = least_price(sets, name, prices)
    # The sets ahead of the last step are shorter and cost no more, so none of them has the piece in it.
    chosen = [names for names in sets if name in names and price_told(names, prices) == least][0]
    rests = [rest for rest in ways if names_of(thing, without(all_bits(thing), rest)) == chosen]
    return steps_off(thing, ways, rests[0])


def carried(thing, steps):
    """The ascending list of the names of the pieces that steps carry off; raises InvalidStep()."""
    lot = Lot(thing)
    gone = []
    for step in steps:
        if lot is None or not is_spare_step(step) or not can_be_done(lot, step):
            raise InvalidStep()
        if step[0] == "draw":
            lot = lot.drawn(step[1])
        else:
            gone.extend(step[2])
            rest = [name for name in lot.names() if name not in step[2]]
            lot = lot.part_of(rest) if rest else None
    return sorted(gone)


def cheaper_sets(thing, name, prices):
    """The list of all sets that can be gone, without a piece, that cost less than the piece."""
    check_wanted(thing, name, prices, None)
    sets = sets_off(thing, ways_off(thing, None))
    least = least_price(sets, name, prices)
    return [names for names in sets if name not in names and price_told(names, prices) < least]


def gone_sets(thing):
    """All sets that can be gone, as ascending tuples, shorter ones first, those with as many names ascending."""
    yield from sets_off(thing, ways_off(thing, None))


def check_wanted(thing, name, prices, only):
    """Raises the first error that keeps a piece from being wanted at some prices."""
    if not are_prices(thing, prices):
        raise InvalidPrices()
    thing.piece(name)
    if only is not None:
        check_direction(only)


def are_prices(thing, value):
    """Whether any value is a dict of all names of pieces to prices."""
    if not isinstance(value, dict) or len(value) != len(thing) or not all([name in value for name in thing.names()]):
        return False
    return all([is_number(value[name], 0, MOST_PRICE) for name in thing.names()])


def price_told(names, prices):
    """The price of some names together."""
    return sum([prices[name] for name in names])


def least_price(sets, name, prices):
    """The least price of those sets that have a name in them."""
    # All steps that carry off the piece carry off, in all, a set that can be gone.
    return min([price_told(names, prices) for names in sets if name in names])


def ways_off(thing, only):
    """By the bits of all that can remain: the bits of what remained one carrying earlier, and its direction.

    For all pieces it is None. With a direction as only, all carrying goes in this direction.
    """
    pegs = peg_rows(thing)
    webs = {direction: web_bits(thing, direction) for direction in (compass(thing) if only is None else [only])}
    found = {all_bits(thing): None}
    ahead = [all_bits(thing)]
    while ahead:
        rest = ahead.pop(0)
        fast = fast_among(pegs, rest)
        for direction in webs:
            # Whatever can be carried off at once can be carried off least set by least set.
            for least in least_bits(leaning_bits(webs[direction], fast, rest), rest):
                left = without(rest, least)
                if left not in found:
                    found[left] = (rest, direction)
                    ahead.append(left)
    return found


def least_bits(leaning, rest):
    """The ascending list of the bits of the least sets of all pieces that remain."""
    return sorted({reached_bits(leaning, at) for at in indexes_of(rest)})


def sets_off(thing, ways):
    """The list of all sets that can be gone, shorter ones first, by the ways that lead to what remains."""
    return sets_told(thing, [without(all_bits(thing), rest) for rest in ways])


def steps_off(thing, ways, rest):
    """The list of the steps behind which some bits remain, with each peg drawn as soon as it can be."""
    rests = [rest]
    while ways[rests[-1]] is not None:
        rests.append(ways[rests[-1]][0])
    rests = rests[::-1]
    steps = []
    fast = peg_rows(thing)
    for ahead, left in zip(rests, rests[1:]):
        still = fast_among(fast, ahead)
        steps.extend([("draw", row[0]) for row in fast if lies_within(row[1], ahead) and row not in still])
        steps.append(("carry", ways[left][1], names_of(thing, without(ahead, left))))
        fast = still
    return steps


def is_spare_step(value):
    """Whether any value is a tuple of the form of a step for a spare part."""
    return is_set_step(value, "carry") or is_peg_step(value, "draw")


def can_be_done(lot, step):
    """Whether a step for a spare part can be done while the pieces and the fast pegs of a lot remain."""
    if step[0] == "draw":
        return step[1] in lot.pegs() and lot.drawable(step[1])
    return all([name in lot for name in step[2]]) and lot.can_leave(step[1], step[2])
