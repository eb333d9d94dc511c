"""Building: the steps of taking apart, turned back."""

from stucklots.clumps import played, taken_apart
from stucklots.rounds import turned_half
from stucklots.states import State


def turned_back(thing, steps):
    """The building steps of a list of steps; raises as played."""
    built = []
    state = State(thing)
    for step in steps:
        further = state.after(step)
        built.append(step_back(state, step))
        state = further
    return built[::-1]


def step_back(state, step):
    """The building step that leads back to a state from the state behind a step."""
    if step[0] == "draw":
        return ("peg", step[1])
    going = step[2]
    rest = tuple([name for name in state.lot_of(going[0]).names() if name not in going])
    return ("join", turned_half(step[1]), going, rest)


def rebuilt(state, steps):
    """The state behind a list of building steps; raises as State.built."""
    for step in steps:
        state = state.built(step)
    return state


def building(thing):
    """The pair of the ended state and a list of building steps from it to the first state."""
    steps = taken_apart(thing)
    return (played(thing, steps), turned_back(thing, steps))
