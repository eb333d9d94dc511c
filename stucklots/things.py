"""Things: pieces that lie beside one another, and the pegs that tie them."""

from stucklots.errors import DuplicateName, InvalidLot, InvalidPeg, InvalidPiece, PiecesOverlap, TooMany, UnknownName
from stucklots.pegs import Peg
from stucklots.pieces import Piece, piece_span
from stucklots.rounds import in_span, turned_span
from stucklots.thinglines import read_whole, written_lines


class Thing:
    """A thing of 1 to 9 pieces and 0 to 8 pegs. It never changes."""

    PIECES = 9
    PEGS = 8

    def __init__(self, pieces, pegs=()):
        check_piece_list(pieces)
        check_pieces_fit(pieces)
        check_peg_list(pegs)
        check_pegs_fit(pegs, [piece.name for piece in pieces])
        self._pieces = by_name(pieces)
        self._pegs = by_name(pegs)
        # Lots and states ask for these over and over again, and a thing never changes.
        self._spans = spans_between(pieces)
        self._barring = {peg.name: [self._barring_names(way) for way in peg.ways()] for peg in pegs}

    def names(self):
        """The ascending list of the names of the pieces."""
        return list(self._pieces)

    def pieces(self):
        """The list of the pieces, by ascending names."""
        return list(self._pieces.values())

    def piece(self, name):
        """The piece with a name."""
        self._check_piece_name(name)
        return self._pieces[name]

    def peg_names(self):
        """The ascending list of the names of the pegs."""
        return list(self._pegs)

    def pegs(self):
        """The list of the pegs, by ascending names."""
        return list(self._pegs.values())

    def peg_called(self, name):
        """The peg with a name."""
        # Any value may be asked for, also one that can be no key of a dict.
        if not isinstance(name, str) or name not in self._pegs:
            raise UnknownName(name)
        return self._pegs[name]

    def pegs_of(self, name):
        """The ascending list of the names of the pegs that tie a piece."""
        self._check_piece_name(name)
        return [peg.name for peg in self.pegs() if name in (peg.one, peg.other)]

    def __contains__(self, name):
        # Any value may be asked for, also one that can be no key of a dict.
        return isinstance(name, str) and name in self._pieces

    def span(self, one, other):
        """The span of the directions in which the piece other bars the piece one, by their different names."""
        return self._spans[one, other]

    def is_barred(self, one, other, direction):
        """Whether the piece other bars the piece one in a direction, by their names; no piece bars itself."""
        return one != other and in_span(self._spans[one, other], direction)

    def barring(self, peg):
        """For each way of a peg, by its name, the ascending list of the names of the pieces that bar it."""
        return [list(names) for names in self._barring[peg]]

    def _barring_names(self, way):
        """The ascending list of the names of the pieces that bar a way."""
        return [name for name in self._pieces if self._pieces[name].bars_way(way)]

    def _check_piece_name(self, name):
        """Raises UnknownName(name) for any value that is no name of a piece."""
        if name not in self:
            raise UnknownName(name)

    def with_piece(self, piece):
        """The thing with a piece more."""
        pieces = self.pieces() + [piece]
        check_piece_list(pieces)
        # A new thing would look at the names of its pegs only behind the overlapping of its pieces.
        if piece.name in self._pegs:
            raise DuplicateName(piece.name)
        return Thing(pieces, self.pegs())

    def without_piece(self, name):
        """The thing without a piece and the pegs that tie it."""
        self._check_piece_name(name)
        if len(self._pieces) == 1:
            raise TooMany(0)
        return self.part_of([other for other in self._pieces if other != name])

    def with_peg(self, peg):
        """The thing with a peg more."""
        return Thing(self.pieces(), self.pegs() + [peg])

    def without_peg(self, name):
        """The thing without a peg."""
        gone = self.peg_called(name)
        return Thing(self.pieces(), [peg for peg in self.pegs() if peg.name != gone.name])

    def with_way(self, name, way):
        """The thing in which a peg has a way more."""
        changed = self.peg_called(name).with_way(way)
        return Thing(self.pieces(), [changed if peg.name == name else peg for peg in self.pegs()])

    def some_names(self, names):
        """The ascending list of some names of pieces; raises InvalidLot(-1), UnknownName(name)."""
        if not isinstance(names, (list, tuple)) or len(names) == 0:
            raise InvalidLot(-1)
        for name in names:
            self._check_piece_name(name)
        return sorted(set(names))

    def pegs_between(self, names):
        """The ascending list of the names of the pegs that tie two of some pieces."""
        return [peg.name for peg in self.pegs() if peg.one in names and peg.other in names]

    def part_of(self, names):
        """The thing of some of its pieces, with the pegs that tie two of them."""
        pieces = [self._pieces[name] for name in self.some_names(names)]
        return Thing(pieces, [self._pegs[name] for name in self.pegs_between(names)])

    def moved(self, right, up):
        """The thing moved to the right and up; raises OutOfBounds()."""
        return Thing([piece.moved(right, up) for piece in self.pieces()], [peg.moved(right, up) for peg in self.pegs()])

    def turned(self, quarters=1):
        """The thing turned by quarters to the left."""
        return Thing([piece.turned(quarters) for piece in self.pieces()], [peg.turned(quarters) for peg in self.pegs()])

    def mirrored(self):
        """The thing mirrored."""
        return Thing([piece.mirrored() for piece in self.pieces()], [peg.mirrored() for peg in self.pegs()])

    def text(self):
        """The text of the thing."""
        return written_lines(self.pieces(), self.pegs())

    @staticmethod
    def read(text):
        """The thing with a text; raises InvalidText(line, why)."""
        pieces, pegs = read_whole(text, Thing.PIECES, Thing.PEGS)
        return Thing(pieces, pegs)

    def __eq__(self, other):
        return isinstance(other, Thing) and self._pieces == other._pieces and self._pegs == other._pegs

    def __len__(self):
        return len(self._pieces)

    def __repr__(self):
        return f"Thing({len(self._pieces)} pieces, {len(self._pegs)} pegs)"


def by_name(rows):
    """A dict of the names of pieces or pegs to them, by ascending names."""
    table = {row.name: row for row in rows}
    return {name: table[name] for name in sorted(table)}


def spans_between(pieces):
    """The spans in which pieces bar one another, by the pairs of the name that is barred and the one that bars it."""
    spans = {}
    for at, piece in enumerate(pieces):
        for other in pieces[at + 1:]:
            span = piece_span(piece, other)
            spans[piece.name, other.name] = span
            spans[other.name, piece.name] = turned_span(span)
    return spans


def check_piece_list(pieces):
    """Raises an error unless a value is a list of as many pieces as a thing may have."""
    if not isinstance(pieces, (list, tuple)) or len(pieces) == 0:
        raise InvalidPiece(-1)
    for at, piece in enumerate(pieces):
        if not isinstance(piece, Piece):
            raise InvalidPiece(at)
    if len(pieces) > Thing.PIECES:
        raise TooMany(Thing.PIECES)


def check_pieces_fit(pieces):
    """Raises an error if two pieces have the same name or overlap."""
    names = {}
    for piece in pieces:
        if piece.name in names:
            raise DuplicateName(piece.name)
        names[piece.name] = True
    for at, piece in enumerate(pieces):
        for other in pieces[at + 1:]:
            if piece.overlaps(other):
                raise PiecesOverlap(piece.name, other.name)


def check_peg_list(pegs):
    """Raises an error unless a value is a list of as many pegs as a thing may have."""
    if not isinstance(pegs, (list, tuple)):
        raise InvalidPeg(-1)
    for at, peg in enumerate(pegs):
        if not isinstance(peg, Peg):
            raise InvalidPeg(at)
    if len(pegs) > Thing.PEGS:
        raise TooMany(Thing.PEGS)


def check_pegs_fit(pegs, names):
    """Raises an error if a peg has a name that is taken, or ties a name that is no piece."""
    taken = {name: True for name in names}
    for peg in pegs:
        if peg.name in taken:
            raise DuplicateName(peg.name)
        taken[peg.name] = True
        for name in (peg.one, peg.other):
            if name not in names:
                raise UnknownName(name)
