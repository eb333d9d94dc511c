"""The lines of the text of a thing: written from its pieces and pegs, and read into them."""

from stucklots.errors import InvalidText
from stucklots.parts import first_loose, is_part, overlap, part_told
from stucklots.pegs import Peg
from stucklots.pieces import Piece
from stucklots.words import is_name, is_way, lines_told, number_in, numbers_told

# By the first word of a line: the first words that the next line may have. Nothing stands behind end.
NEXT_WORDS = {
    "": ("thing",),
    "thing": ("piece",),
    "piece": ("part",),
    "part": ("part", "piece", "peg", "end"),
    "peg": ("way", "peg", "end"),
    "way": ("way", "peg", "end"),
}


def written_lines(pieces, pegs):
    """The text of pieces and pegs that are in the order of their names."""
    lines = ["thing"]
    for piece in pieces:
        lines.append(f"piece {piece.name}")
        lines.extend([f"part {numbers_told(part)}" for part in piece.parts()])
    for peg in pegs:
        lines.append(f"peg {peg.name} {peg.one} {peg.other}")
        lines.extend([f"way {numbers_told(way)}" for way in peg.ways()])
    lines.append("end")
    return lines_told(lines)


def line_read(line):
    """The tuple of the first word of a line and of what it tells, or None if the line has no form."""
    word, *further = line.split(" ")
    if word in ("thing", "end") and not further:
        return (word,)
    if word == "piece" and len(further) == 1 and is_name(further[0]):
        return (word, further[0])
    if word == "part":
        part = pairs_read(further)
        return (word, part) if is_part(part) and part_told(part) == part else None
    if word == "peg" and len(further) == 3 and all([is_name(name) for name in further]) and further[1] < further[2]:
        return (word, *further)
    if word == "way":
        way = pairs_read(further)
        return (word, way) if is_way(way) else None
    return None


def pairs_read(words):
    """The tuple of the pairs of numbers that some words write; None if they write none."""
    numbers = [number_in(word) for word in words]
    if None in numbers or len(numbers) % 2 == 1:
        return None
    return tuple([(numbers[at], numbers[at + 1]) for at in range(0, len(numbers), 2)])


class Draft:
    """The pieces and pegs that the lines of a text have told so far."""

    def __init__(self, most_pieces, most_pegs):
        self.most_pieces = most_pieces
        self.most_pegs = most_pegs
        self.last_word = ""
        self.piece_names = []
        self.part_lists = []
        self.peg_heads = []
        self.way_lists = []

    def fault(self, told):
        """The word for why a line that was read cannot stand here, or None."""
        if told is None or told[0] not in NEXT_WORDS[self.last_word]:
            return "form"
        if self.last_word == "part" and told[0] != "part" and first_loose(self.part_lists[-1]) is not None:
            return "loose"
        if told[0] == "piece":
            return self.piece_fault(told[1])
        if told[0] == "part":
            return self.part_fault(told[1])
        if told[0] == "peg":
            return self.peg_fault(told[1:])
        if told[0] == "way" and len(self.way_lists[-1]) == Peg.WAYS:
            return "many"
        return None

    def piece_fault(self, name):
        """The word for why a piece cannot stand here, or None."""
        if len(self.piece_names) == self.most_pieces:
            return "many"
        if self.piece_names and name <= self.piece_names[-1]:
            return "order"
        return None

    def part_fault(self, part):
        """The word for why a part cannot stand here, or None."""
        beside = self.part_lists[-1]
        if len(beside) == Piece.PARTS:
            return "many"
        if beside and part <= beside[-1]:
            return "order"
        if any([overlap(part, earlier) for parts in self.part_lists for earlier in parts]):
            return "overlap"
        return None

    def peg_fault(self, head):
        """The word for why a peg with a name and the names of its pieces cannot stand here, or None."""
        name, one, other = head
        if len(self.peg_heads) == self.most_pegs:
            return "many"
        if self.peg_heads and name <= self.peg_heads[-1][0]:
            return "order"
        if name in self.piece_names:
            return "double"
        if one not in self.piece_names or other not in self.piece_names:
            return "unknown"
        return None

    def take(self, told):
        """Keeps what a line tells that has no fault."""
        self.last_word = told[0]
        if told[0] == "piece":
            self.piece_names.append(told[1])
            self.part_lists.append([])
        elif told[0] == "part":
            self.part_lists[-1].append(told[1])
        elif told[0] == "peg":
            self.peg_heads.append(told[1:])
            self.way_lists.append([])
        elif told[0] == "way":
            self.way_lists[-1].append(told[1])

    def made_pieces(self):
        """The list of the pieces."""
        return [Piece(name, parts) for name, parts in zip(self.piece_names, self.part_lists)]

    def made_pegs(self):
        """The list of the pegs."""
        return [Peg(name, one, other, ways) for (name, one, other), ways in zip(self.peg_heads, self.way_lists)]


def read_head(text, most_pieces, most_pegs):
    """The pieces and the pegs of the thing with whose text a string begins, and the number of its lines."""
    if not isinstance(text, str):
        raise InvalidText(0, "form")
    lines = text.split("\n")
    # What stands behind the last line feed is no line of its own, or one that lacks its line feed.
    rest = lines.pop()
    draft = Draft(most_pieces, most_pegs)
    for at, line in enumerate(lines):
        told = line_read(line)
        why = draft.fault(told)
        if why is not None:
            raise InvalidText(at, why)
        draft.take(told)
        if draft.last_word == "end":
            return (draft.made_pieces(), draft.made_pegs(), at + 1)
    raise InvalidText(len(lines), "form" if rest else "missing")


def read_whole(text, most_pieces, most_pegs):
    """The pieces and the pegs of the thing whose text a string is."""
    pieces, pegs, many = read_head(text, most_pieces, most_pegs)
    if text.split("\n")[many:] != [""]:
        raise InvalidText(many, "form")
    return (pieces, pegs)
