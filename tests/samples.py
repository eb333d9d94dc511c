"""Values that several tests need."""


def any_values():
    """Values of many kinds, none of which is a name, a number, a point, a direction, a part or a way."""
    return [
        None, True, False, '', 'A', 'a b', 'toolong', '-', '7', 'a\n',
        (), (None,), (None, None), ('a', 'b'), ((), ()), ((((((((1,),),),),),),),),
        [], [0, 1], [[0, 1], [1, 0]], [(0, 0), (1, 0)], {}, {'a': 1}, {0: 0, 1: 1}, [{}], ({}, []),
        (True, False), (1, True), (False, 1), (True, 1), (0, 0, 1), (0,), ((0, 0),), ((0, 0), (0, 0)),
        ((0, 0), None), (None, (1, 0)), ([0, 0], (1, 0)), ((0, 0), [1, 0]), ((0, 0), (1, 0), 0), '0 1', (1, '0'),
    ]


def code_and_values(error):
    """The code of an error and its other attributes."""
    values = dict(vars(error))
    code = values.pop('code')
    return code, values


def caught(call, *args, **named):
    """The code and the attributes of the error that a call raises, or None if it raises none."""
    try:
        call(*args, **named)
    except Exception as error:
        if not hasattr(error, 'code'):
            raise
        return code_and_values(error)
    return None


def box(x, y, wide=2, high=2):
    """The part of a box with its lower left corner and its sizes."""
    return ((x, y), (x + wide, y), (x + wide, y + high), (x, y + high))


def told_from_each_corner(part):
    """All tuples that tell the same polygon."""
    return [part[at:] + part[:at] for at in range(len(part))]


def convex_hull(points):
    """The strict corners of the hull of some points, round to the left."""
    def half(ordered):
        row = []
        for x, y in ordered:
            while len(row) > 1:
                (a, b), (c, d) = row[-2:]
                if (c - a) * (y - b) - (d - b) * (x - a) > 0:
                    break
                row.pop()
            row.append((x, y))
        return row[:-1]
    ordered = sorted(set(points))
    return tuple(half(ordered) + half(ordered[::-1]))


def random_part(chance, bound=6):
    """A part by chance, told from some corner on."""
    while True:
        hull = convex_hull([(chance.randint(-bound, bound), chance.randint(-bound, bound)) for _ in range(6)])
        if 3 <= len(hull) <= 6:
            at = chance.randrange(len(hull))
            return hull[at:] + hull[:at]
