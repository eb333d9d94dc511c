"""The errors of the package. Each one keeps what it was given, and the name of its class as its code."""


class LotError(ValueError):
    """A value that cannot be taken, or that does not fit."""


class InvalidName(LotError):
    """A value that is no name, or not the name that is asked for."""

    def __init__(self, value):
        self.value = value
        self.code = "InvalidName"


class InvalidNumber(LotError):
    """A value that is no number of the range that is asked for."""

    def __init__(self, value):
        self.value = value
        self.code = "InvalidNumber"


class InvalidDirection(LotError):
    """A value that is no direction."""

    def __init__(self, value):
        self.value = value
        self.code = "InvalidDirection"


class InvalidPart(LotError):
    """The item with this index is no part; -1 if there is no list of parts."""

    def __init__(self, at):
        self.at = at
        self.code = "InvalidPart"


class PartsOverlap(LotError):
    """The parts with these two indexes overlap."""

    def __init__(self, one, other):
        self.one = one
        self.other = other
        self.code = "PartsOverlap"


class Loose(LotError):
    """The part with this index does not hang together with the first one."""

    def __init__(self, at):
        self.at = at
        self.code = "Loose"


class InvalidWay(LotError):
    """The item with this index is no way; -1 if there is no list of ways."""

    def __init__(self, at):
        self.at = at
        self.code = "InvalidWay"


class InvalidPiece(LotError):
    """The item with this index is no piece; -1 if there is no list of pieces."""

    def __init__(self, at):
        self.at = at
        self.code = "InvalidPiece"


class InvalidPeg(LotError):
    """The item with this index is no peg; -1 if there is no list of pegs."""

    def __init__(self, at):
        self.at = at
        self.code = "InvalidPeg"


class PiecesOverlap(LotError):
    """The pieces with these two names overlap."""

    def __init__(self, one, other):
        self.one = one
        self.other = other
        self.code = "PiecesOverlap"


class DuplicateName(LotError):
    """Something has this name already."""

    def __init__(self, name):
        self.name = name
        self.code = "DuplicateName"


class TooMany(LotError):
    """There would be more than this number."""

    def __init__(self, most):
        self.most = most
        self.code = "TooMany"


class OutOfBounds(LotError):
    """A point would lie beyond the bounds."""

    def __init__(self):
        self.code = "OutOfBounds"


class InvalidText(LotError):
    """The line with this index cannot stand, and the word why."""

    def __init__(self, line, why):
        self.line = line
        self.why = why
        self.code = "InvalidText"


class InvalidLot(LotError):
    """These names or pegs make no lot."""

    def __init__(self, at):
        self.at = at
        self.code = "InvalidLot"


class OtherThing(LotError):
    """A lot or a state of another thing."""

    def __init__(self):
        self.code = "OtherThing"


class InvalidStep(LotError):
    """A value that has not the form of a step."""

    def __init__(self):
        self.code = "InvalidStep"


class NoParting(LotError):
    """Nothing, all, or names of several lots cannot be parted."""

    def __init__(self):
        self.code = "NoParting"


class NoJoining(LotError):
    """These two cannot be joined."""

    def __init__(self):
        self.code = "NoJoining"


class Barred(LotError):
    """The piece one is barred by the piece other."""

    def __init__(self, one, other):
        self.one = one
        self.other = other
        self.code = "Barred"


class Pegged(LotError):
    """A fast peg ties both sides."""

    def __init__(self, peg):
        self.peg = peg
        self.code = "Pegged"


class NotFast(LotError):
    """The peg is not fast."""

    def __init__(self, peg):
        self.peg = peg
        self.code = "NotFast"


class Held(LotError):
    """No way of the peg is free."""

    def __init__(self, peg):
        self.peg = peg
        self.code = "Held"


class NotStuck(LotError):
    """The lot is not stuck: this step can be taken."""

    def __init__(self, step):
        self.step = step
        self.code = "NotStuck"


class InvalidRow(LotError):
    """The item with this index cannot stand in the row; -1 if it is no row at all."""

    def __init__(self, at):
        self.at = at
        self.code = "InvalidRow"


class NeverLeaves(LotError):
    """The piece is in the kernel."""

    def __init__(self, name):
        self.name = name
        self.code = "NeverLeaves"


class Refused(LotError):
    """The step of the line with this index cannot be taken, and the word why."""

    def __init__(self, line, why):
        self.line = line
        self.why = why
        self.code = "Refused"


class InvalidPrices(LotError):
    """A value that is no dict of prices."""

    def __init__(self):
        self.code = "InvalidPrices"


class InvalidDeed(LotError):
    """The value with this index is no deed; -1 if there is no list of deeds."""

    def __init__(self, at):
        self.at = at
        self.code = "InvalidDeed"


class Missing(LookupError):
    """Something that is not there."""


class UnknownName(Missing):
    """Nothing has this name."""

    def __init__(self, name):
        self.name = name
        self.code = "UnknownName"


class NothingLeft(IndexError):
    """Nothing is left to undo or to redo."""

    def __init__(self):
        self.code = "NothingLeft"
