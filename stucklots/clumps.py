"""Clumps: what is left when a thing is taken apart, whatever the order."""

from stucklots.states import State


def taken_apart(thing, picks=()):
    """The list of the steps from the first state to the ended one, where picks choose among the offers."""
    steps = []
    state = State(thing)
    offers = state.offers()
    while offers:
        pick = picks[len(steps)] if len(steps) < len(picks) else 0
        step = offers[pick % len(offers)]
        steps.append(step)
        state = state.after(step)
        offers = state.offers()
    return steps


def played(thing, steps):
    """The state behind a list of steps; raises as State.after."""
    state = State(thing)
    for step in steps:
        state = state.after(step)
    return state


def ended_state(thing):
    """The ended state that is reached from the first one."""
    return played(thing, taken_apart(thing))


def clumps(thing):
    """The ascending list of the clumps."""
    return ended_state(thing).told()


def clump_of(thing, name):
    """The clump with a piece; raises UnknownName(name)."""
    piece = thing.piece(name)
    return ended_state(thing).lot_of(piece.name).told()


def is_one_clump(thing):
    """Whether all pieces are in one clump."""
    return len(clumps(thing)) == 1
