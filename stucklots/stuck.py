"""Stuck papers: they show that a lot is stuck."""

from stucklots.errors import NotStuck
from stucklots.rounds import check_direction
from stucklots.words import is_direction, is_number


def stuck_paper(lot):
    """The pair of the walks and the bars of a stuck lot; raises NotStuck(step)."""
    steps = lot.draws() + lot.partings()
    if steps:
        raise NotStuck(steps[0])
    walks = [(direction, round_walk(lot.leaning(direction))) for direction in lot.compass()]
    bars = [(peg, index, bars_of_way(lot, peg, index)[0]) for peg, index in ways_of(lot)]
    return (walks, bars)


def round_walk(leaning):
    """A walk from the least name over all names and back, where all names reach one another."""
    names = list(leaning)
    walk = names[:1]
    for name in names[1:]:
        if name not in walk:
            walk.extend(way_between(leaning, walk[-1], name))
    return walk + way_between(leaning, walk[-1], names[0])


def way_between(leaning, start, goal):
    """A shortest list of names, each of which leans on the next one, from behind start up to goal."""
    ways = {start: []}
    ahead = [start]
    while goal not in ways:
        here = ahead.pop(0)
        for name in leaning[here]:
            if name not in ways:
                ways[name] = ways[here] + [name]
                ahead.append(name)
    return ways[goal]


def ways_of(lot):
    """The list of the pairs of each fast peg of a lot and each index of its ways."""
    return [(peg, index) for peg in lot.pegs() for index in range(len(lot.thing.barring(peg)))]


def bars_of_way(lot, peg, index):
    """The ascending list of the names of the pieces of a lot that bar a way of a peg."""
    return [name for name in lot.thing.barring(peg)[index] if name in lot]


def is_stuck_paper(lot, paper):
    """Whether any value is a stuck paper of a lot."""
    return is_tuple_of(paper, 2) and are_walks(lot, paper[0]) and are_bars(lot, paper[1])


def is_tuple_of(value, many):
    """Whether any value is a tuple of so many items."""
    return isinstance(value, tuple) and len(value) == many


def is_list_of(value, many):
    """Whether any value is a list or tuple of so many items."""
    return isinstance(value, (list, tuple)) and len(value) == many


def are_walks(lot, value):
    """Whether any value has a walk of the lot for each direction of its compass."""
    directions = lot.compass()
    if not is_list_of(value, len(directions)):
        return False
    return all([is_told_walk(lot, direction, item) for direction, item in zip(directions, value)])


def is_told_walk(lot, direction, value):
    """Whether any value is the pair of a direction and a walk of the lot in it."""
    # To Python (True, 0) equals (1, 0), but it is no direction.
    if not is_tuple_of(value, 2) or not is_direction(value[0]) or value[0] != direction:
        return False
    return is_walk(lot, direction, value[1])


def is_walk(lot, direction, walk):
    """Whether any value is a walk of a lot in a direction; raises InvalidDirection(direction)."""
    check_direction(direction)
    if not isinstance(walk, (list, tuple)) or not all([name in lot for name in walk]):
        return False
    names = lot.names()
    if not all([name in walk for name in names]) or walk[0] != names[0] or walk[-1] != names[0]:
        return False
    leaning = lot.leaning(direction)
    return all([following in leaning[name] for name, following in zip(walk, walk[1:])])


def are_bars(lot, value):
    """Whether any value has a bar for each way of each fast peg of the lot."""
    places = ways_of(lot)
    if not is_list_of(value, len(places)):
        return False
    return all([is_told_bar(lot, peg, index, item) for (peg, index), item in zip(places, value)])


def is_told_bar(lot, peg, index, value):
    """Whether any value is the triple of a peg, the index of a way and a piece of the lot that bars it."""
    if not is_tuple_of(value, 3) or value[0] != peg or not is_number(value[1], index, index):
        return False
    return value[2] in bars_of_way(lot, peg, index)
