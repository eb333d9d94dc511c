"""The texts of things."""

from stucklots.thinglines import read_head
from stucklots.things import Thing


def thing_text(thing):
    """The text of a thing."""
    return thing.text()


def read_thing(text):
    """The thing with a text; raises InvalidText(line, why)."""
    return Thing.read(text)


def read_thing_head(text):
    """The thing whose text a string begins with, and the number of its lines; raises InvalidText(line, why)."""
    pieces, pegs, lines = read_head(text, Thing.PIECES, Thing.PEGS)
    return (Thing(pieces, pegs), lines)
