"""Deeds: what is done to the jobs of a works, which are told by a dict of their names to their benches."""

from stucklots.errors import DuplicateName, InvalidDeed, InvalidName, TooMany, UnknownName
from stucklots.pegs import Peg
from stucklots.pieces import Piece
from stucklots.states import State
from stucklots.things import Thing
from stucklots.words import is_name

# How many items a deed has, by its word.
DEED_SIZES = {"put": 3, "drop": 2, "move": 3, "piece": 3, "out": 3, "peg": 3, "loose": 3, "step": 3}


def is_job(jobs, name):
    """Whether any value is the name of a job."""
    # Any value may be asked for, also one that can be no key of a dict.
    return isinstance(name, str) and name in jobs


def check_job(jobs, name):
    """Raises UnknownName(name) for any value that is no name of a job."""
    if not is_job(jobs, name):
        raise UnknownName(name)


def is_deed(value):
    """Whether any value is a tuple of the form of a deed."""
    if not isinstance(value, tuple) or len(value) < 2 or not isinstance(value[0], str):
        return False
    if DEED_SIZES.get(value[0]) != len(value):
        return False
    if value[0] == "put":
        return isinstance(value[2], Thing)
    if value[0] == "piece":
        return isinstance(value[2], Piece)
    return value[0] != "peg" or isinstance(value[2], Peg)


def check_deeds(deeds):
    """Raises InvalidDeed(at) with the index of the first value that is no deed."""
    for at, deed in enumerate(deeds):
        if not is_deed(deed):
            raise InvalidDeed(at)


def jobs_behind(jobs, deed, most):
    """The jobs behind a deed, as a new dict, of which there are at most so many."""
    word = deed[0]
    name = deed[1]
    if word == "put":
        check_fresh_name(jobs, name)
        if len(jobs) == most:
            raise TooMany(most)
        return with_job(jobs, name, State(deed[2]))
    check_job(jobs, name)
    if word == "drop":
        return without_job(jobs, name)
    if word == "move":
        check_fresh_name(jobs, deed[2])
        return with_job(without_job(jobs, name), deed[2], jobs[name])
    if word == "step":
        return with_job(jobs, name, jobs[name].after(deed[2]))
    return with_job(jobs, name, State(changed_thing(jobs[name].thing, word, deed[2])))


def check_fresh_name(jobs, name):
    """Raises InvalidName(name), DuplicateName(name) unless a value is a name that no job has."""
    if not is_name(name):
        raise InvalidName(name)
    if name in jobs:
        raise DuplicateName(name)


def with_job(jobs, name, bench):
    """The jobs with a job more, or with another bench."""
    return {**jobs, name: bench}


def without_job(jobs, name):
    """The jobs without a job."""
    return {other: jobs[other] for other in jobs if other != name}


def changed_thing(thing, word, value):
    """The thing behind a deed that changes it."""
    if word == "piece":
        return thing.with_piece(value)
    if word == "out":
        return thing.without_piece(value)
    if word == "peg":
        return thing.with_peg(value)
    return thing.without_peg(value)


def check_journal(journal):
    """Raises InvalidDeed(at) with the index of the first item of a journal that is none; -1 if there is no list."""
    if not isinstance(journal, (list, tuple)):
        raise InvalidDeed(-1)
    for at, call in enumerate(journal):
        if not is_journal_item(call):
            raise InvalidDeed(at)


def is_journal_item(value):
    """Whether any value is a tuple of the form of an item of a journal."""
    if value in (("undo",), ("redo",)):
        return True
    if not isinstance(value, tuple) or len(value) != 2 or value[0] != "do" or not isinstance(value[1], tuple):
        return False
    return len(value[1]) > 0 and all([is_deed(deed) for deed in value[1]])
