"""The compass of some pieces, and which of them bar one another in a direction."""

from stucklots.rounds import check_direction, in_round, next_in_round

FIRST_DIRECTION = (1, 0)


def compass(thing, names=None):
    """The list of all ends of the arcs of each two of some pieces, in round order."""
    chosen = chosen_names(thing, names)
    ends = [end for one in chosen for other in chosen if one != other for end in thing.span(one, other)]
    return in_round(ends) if ends else [FIRST_DIRECTION]


def web(thing, direction, names=None):
    """The ascending list of the pairs of names of which the second one bars the first one in a direction."""
    chosen = chosen_names(thing, names)
    check_direction(direction)
    return [(one, other) for one in chosen for other in chosen if thing.is_barred(one, other, direction)]


def stands_for(thing, direction, names=None):
    """The direction of the compass that stands for a direction."""
    return next_in_round(compass(thing, names), direction)


def barred_by(thing, name, direction):
    """The ascending list of the names of the pieces that bar a piece in a direction."""
    barred = thing.piece(name).name
    check_direction(direction)
    return [other for other in thing.names() if thing.is_barred(barred, other, direction)]


def chosen_names(thing, names):
    """The ascending list of some names of pieces, or of all for None; raises InvalidLot(-1), UnknownName(name)."""
    return thing.names() if names is None else thing.some_names(names)
