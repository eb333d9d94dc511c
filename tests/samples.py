"""Values that several tests need."""

from stucklots.lots import Lot
from stucklots.pegs import Peg
from stucklots.pieces import Piece
from stucklots.things import Thing


# The thing of the examples of the document: hooked into one another, but taken apart in two directions.
HOOKS = (
    Piece('a', [((0, 0), (2, 0), (2, 8), (0, 8)), ((2, 0), (18, 0), (18, 2), (2, 2)),
                ((2, 4), (10, 4), (10, 6), (2, 6)), ((4, 6), (6, 6), (6, 8), (4, 8))]),
    Piece('b', [((2, 6), (4, 6), (4, 8), (2, 8))]),
    Piece('c', [((0, 8), (18, 8), (18, 10), (0, 10)), ((10, 2), (12, 2), (12, 8), (10, 8)),
                ((6, 2), (10, 2), (10, 4), (6, 4)), ((14, 2), (16, 2), (16, 8), (14, 8))]),
    Piece('d', [((12, 2), (14, 2), (14, 8), (12, 8))]),
)
GROOVE = Piece('g', [((0, 0), (6, 0), (6, 2), (0, 2)), ((0, 2), (2, 2), (2, 6), (0, 6)), ((4, 2), (6, 2), (6, 6), (4, 6))])
TONGUE = Piece('t', [((2, 2), (4, 2), (4, 6), (2, 6))])
FRAME = Piece('f', [((0, 0), (8, 0), (8, 2), (0, 2)), ((0, 6), (8, 6), (8, 8), (0, 8)),
                    ((0, 2), (2, 2), (2, 6), (0, 6)), ((6, 2), (8, 2), (8, 6), (6, 6))])
INNER = Piece('i', [((3, 3), (5, 3), (5, 5), (3, 5))])
RIGHT, UP, LEFT, DOWN = (1, 0), (0, 1), (-1, 0), (0, -1)


def any_values():
    """Values of many kinds, none of which is a name, a number, a point, a direction, a part or a way."""
    return [
        None, True, False, '', 'A', 'a b', 'toolong', '-', '7', 'a\n',
        (), (None,), (None, None), ('a', 'b'), ((), ()), ((((((((1,),),),),),),),),
        [], [0, 1], [[0, 1], [1, 0]], [(0, 0), (1, 0)], {}, {'a': 1}, {0: 0, 1: 1}, [{}], ({}, []),
        (True, False), (1, True), (False, 1), (True, 1), (0, 0, 1), (0,), ((0, 0),), ((0, 0), (0, 0)),
        ((0, 0), None), (None, (1, 0)), ([0, 0], (1, 0)), ((0, 0), [1, 0]), ((0, 0), (1, 0), 0), '0 1', (1, '0'),
    ]


def code_and_values(error):
    """The code of an error and its other attributes."""
    values = dict(vars(error))
    code = values.pop('code')
    return code, values


def caught(call, *args, **named):
    """The code and the attributes of the error that a call raises, or None if it raises none."""
    try:
        call(*args, **named)
    except Exception as error:
        if not hasattr(error, 'code'):
            raise
        return code_and_values(error)
    return None


def box(x, y, wide=2, high=2):
    """The part of a box with its lower left corner and its sizes."""
    return ((x, y), (x + wide, y), (x + wide, y + high), (x, y + high))


# A row of four boxes from left to right, with a pin between a and b that can be drawn upwards, a peg between b and c
# that is held by d, and glue between a and d.
ROW = [Piece('abcd'[at], [box(3 * at, 0)]) for at in range(4)]
PIN = Peg('pin', 'a', 'b', [((3, 1), RIGHT), ((2, 2), UP)])
HELD = Peg('held', 'c', 'b', [((8, 1), RIGHT)])
GLUE = Peg('glue', 'd', 'a')
PEGGED_ROW = Thing(ROW, [PIN, HELD, GLUE])


def told_from_each_corner(part):
    """All tuples that tell the same polygon."""
    return [part[at:] + part[:at] for at in range(len(part))]


def convex_hull(points):
    """The strict corners of the hull of some points, round to the left."""
    def half(ordered):
        row = []
        for x, y in ordered:
            while len(row) > 1:
                (a, b), (c, d) = row[-2:]
                if (c - a) * (y - b) - (d - b) * (x - a) > 0:
                    break
                row.pop()
            row.append((x, y))
        return row[:-1]
    ordered = sorted(set(points))
    return tuple(half(ordered) + half(ordered[::-1]))


def random_part(chance, bound=6):
    """A part by chance, told from some corner on."""
    while True:
        hull = convex_hull([(chance.randint(-bound, bound), chance.randint(-bound, bound)) for _ in range(6)])
        if 3 <= len(hull) <= 6:
            at = chance.randrange(len(hull))
            return hull[at:] + hull[:at]


def cells_of(rectangle):
    left, low, right, high = rectangle
    return {(x, y) for x in range(left, right) for y in range(low, high)}


def random_rectangles(chance, wide, high, taken):
    """Up to four rectangles of a grid that hang together and lie on cells that are not taken, or none."""
    rectangles = []
    beside = set()
    for _ in range(30):
        left, low = chance.randrange(wide), chance.randrange(high)
        rectangle = (left, low, min(wide, left + chance.choice([1, 1, 2, 4])), min(high, low + chance.choice([1, 1, 2, 4])))
        cells = cells_of(rectangle)
        if cells & taken or (rectangles and not cells & beside):
            continue
        rectangles.append(rectangle)
        taken |= cells
        beside |= {(x + u, y + v) for x, y in cells for u, v in ((1, 0), (-1, 0), (0, 1), (0, -1))}
        if len(rectangles) == chance.choice([1, 2, 3, 4, 4]) or len(rectangles) == 4:
            break
    return rectangles


def random_pieces(chance, most, wide=5, high=5):
    """A list of pieces by chance, named from a on: unions of rectangles, often hooked into one another, and slanted."""
    taken, pieces = set(), []
    a, b, c, d = chance.choice([(2, 0, 0, 2), (2, 0, 0, 2), (2, 1, 0, 2), (2, 1, -1, 2), (3, 1, 1, 2), (1, 0, 3, 1)])
    for _ in range(most):
        rectangles = random_rectangles(chance, wide, high, taken)
        if rectangles:
            boxes = [box(left, low, right - left, top - low) for left, low, right, top in rectangles]
            parts = [tuple((a * x + b * y, c * x + d * y) for x, y in part) for part in boxes]
            pieces.append(Piece('abcdefghi'[len(pieces)], parts))
    return pieces


def random_peg(chance, name, names):
    """A peg by chance that ties two of some names."""
    directions = [(1, 0), (0, 1), (-1, 0), (0, -1), (1, 1), (-2, 1), (1, -3)]
    ways = [((chance.randint(-2, 16), chance.randint(-2, 16)), chance.choice(directions))
            for _ in range(chance.choice([0, 1, 1, 2, 3]))]
    return Peg(name, *chance.sample(names, 2), ways)


def random_thing(chance, most=5, pegs=2, wide=5, high=5):
    """A thing by chance with up to so many pieces and pegs."""
    pieces = random_pieces(chance, chance.randint(1, most), wide, high)
    names = [piece.name for piece in pieces]
    many = chance.randint(0, pegs) if len(names) > 1 else 0
    return Thing(pieces, [random_peg(chance, 'stuvwxyz'[at], names) for at in range(many)])


def random_lot(chance, thing):
    """A lot by chance of a thing: some of its pieces, and some of the pegs between them."""
    names = chance.sample(thing.names(), chance.randint(1, len(thing)))
    pegs = [peg.name for peg in thing.pegs() if peg.one in names and peg.other in names]
    return Lot(thing, names, fast=[peg for peg in pegs if chance.random() < 0.7])
