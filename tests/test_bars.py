import random
import unittest

from reference import bars_part, bars_piece, do_overlap, is_side, pointing, with_between
from samples import FRAME, GROOVE, INNER, TONGUE, any_values, box, caught, random_part, random_pieces
from stucklots.arcs import Arc
from stucklots.bars import arc_of, bars, part_arc, sides
from stucklots.parts import differences
from stucklots.pieces import Piece
from stucklots.things import Thing

SQUARE = box(0, 0)
FAR = [(1, 0), (0, 1), (-1, 0), (0, -1), (999, 1), (-1, 999), (-999, -998), (2, -3)]
WRONG = any_values() + [0, 'up', (0, 0), (2, 0), (1000, 1), [1, 0], (True, 0), (1, 0, 0), Arc.whole(), TONGUE]


def part_probes(part, other):
    """The directions of all differences, and between each two of them another one."""
    return with_between([pointing(pair) for pair in differences(part, other)])


def piece_probes(piece, other):
    return with_between([pointing(pair) for part in piece.parts() for beside in other.parts()
                         for pair in differences(part, beside)])


def pairs_of_parts(chance, many):
    """Pairs of parts by chance that do not overlap."""
    found = []
    while len(found) < many:
        part, other = random_part(chance, 3), random_part(chance, 3)
        right, up = chance.randint(-6, 6), chance.randint(-6, 6)
        other = tuple((x + right, y + up) for x, y in other)
        if not do_overlap(part, other):
            found.append((part, other))
    return found


def pairs_of_pieces(chance, many):
    """Pairs of pieces by chance that do not overlap, most of them with several parts."""
    found = []
    while len(found) < many:
        pieces = random_pieces(chance, 2, 4, 4)
        if len(pieces) == 2:
            found.append(pieces)
    return found


class PartArcTests(unittest.TestCase):
    def check(self, part, other, start, stop):
        self.assertEqual(part_arc(part, other), Arc(start, stop))
        self.assertEqual(part_arc(other, part), Arc(start, stop).turned())

    def test_edge_on_edge(self):
        self.check(SQUARE, box(2, 0), (0, -1), (0, 1))
        self.check(SQUARE, box(0, 2), (1, 0), (-1, 0))
        self.check(SQUARE, box(2, 1), (0, -1), (0, 1))
        self.check(SQUARE, box(-5, 2, 20, 1), (1, 0), (-1, 0))
        self.check(((0, 0), (3, 0), (0, 3)), ((3, 0), (3, 3), (0, 3)), (1, -1), (-1, 1))
        self.check(((0, 0), (6, 0), (0, 6)), ((5, 1), (9, 9), (2, 4)), (1, -1), (-1, 1))

    def test_corner_on_corner(self):
        self.check(SQUARE, box(2, 2), (1, 0), (0, 1))
        self.check(SQUARE, box(2, -2), (0, -1), (1, 0))
        self.check(((0, 0), (2, -1), (2, 1)), ((0, 0), (-2, 1), (-2, -1)), (-2, 1), (-2, -1))

    def test_a_corner_on_an_edge(self):
        self.check(SQUARE, ((2, 1), (4, 0), (4, 2)), (0, -1), (0, 1))

    def test_apart(self):
        self.check(SQUARE, box(4, 0), (1, -1), (1, 1))
        self.assertEqual(part_arc(SQUARE, box(10, 20)).ends(), [(2, 3), (4, 11)])
        self.assertEqual(part_arc(SQUARE, box(2, 7)).ends(), [(4, 5), (0, 1)])

    def test_up_to_the_bounds(self):
        low, high = ((-200, -200), (-199, -200), (-200, -199)), ((200, 200), (199, 200), (200, 199))
        self.check(low, high, (200, 199), (199, 200))
        left, right = ((-200, -200), (-199, 200), (-200, 200)), ((200, -200), (200, 200), (199, 200))
        self.check(left, right, (399, -400), (399, 400))
        half = ((-200, -200), (200, -200), (200, 200)), ((-200, -200), (200, 200), (-200, 200))
        self.check(*half, (1, 1), (-1, -1))

    def test_told_from_another_corner(self):
        for at in range(4):
            part = SQUARE[at:] + SQUARE[:at]
            self.check(part, box(4, 1)[at:] + box(4, 1)[:at], (2, -1), (2, 3))

    def test_by_name(self):
        self.assertEqual(part_arc(other=box(2, 0), part=SQUARE), Arc((0, -1), (0, 1)))

    def test_the_facts_by_chance(self):
        for part, other in pairs_of_parts(random.Random(21), 60):
            arc = part_arc(part, other)
            self.assertEqual(part_arc(other, part), arc.turned())
            self.assertEqual(len(arc), 2)
            directions = {pointing(pair) for pair in differences(part, other)}
            self.assertLessEqual(set(arc.ends()), directions)
            (u, v), (x, y) = arc.ends()
            # At most half of the round.
            self.assertTrue(u * y - v * x > 0 or (u, v) == (-x, -y))
            for direction in part_probes(part, other):
                self.assertIs(direction in arc, bars_part(part, other, direction), (part, other, direction))

    def test_parts_that_overlap(self):
        for other in [SQUARE, box(1, 1), box(-5, -5, 20, 20), box(1, 0), SQUARE[1:] + SQUARE[:1]]:
            self.assertEqual(caught(part_arc, SQUARE, other), ('PartsOverlap', {'one': 0, 'other': 1}))
            self.assertEqual(caught(part_arc, other, SQUARE), ('PartsOverlap', {'one': 0, 'other': 1}))


class ArcOfTests(unittest.TestCase):
    def test_tongue_and_groove(self):
        self.assertEqual(arc_of(TONGUE, GROOVE), Arc((0, 1), (0, 1)))
        self.assertEqual(arc_of(GROOVE, TONGUE), Arc((0, -1), (0, -1)))
        short = Piece('t', [box(2, 2)])
        self.assertEqual(arc_of(short, GROOVE), Arc((0, 1), (0, 1)))
        narrow = Piece('t', [((3, 2), (4, 3), (3, 4), (2, 3))])
        self.assertEqual(arc_of(narrow, GROOVE), Arc((0, 1), (0, 1)))
        slack = Piece('t', [box(2, 2, 1, 1)])
        self.assertEqual(arc_of(slack, GROOVE), Arc((0, 1), (1, 4)))

    def test_in_a_frame(self):
        self.assertEqual(arc_of(INNER, FRAME), Arc.whole())
        self.assertEqual(arc_of(FRAME, INNER), Arc.whole())
        self.assertEqual(arc_of(Piece('i', [box(2, 2, 4, 4)]), FRAME), Arc.whole())

    def test_beside_and_far_away(self):
        one, other = Piece('a', [SQUARE]), Piece('b', [box(4, 0), box(6, 0)])
        self.assertEqual(arc_of(one, other), Arc((1, -1), (1, 1)))
        self.assertEqual(arc_of(piece=other, other=one), Arc((-1, 1), (-1, -1)))
        self.assertEqual(arc_of(Piece('a', [box(-200, -200)]), Piece('a', [box(198, 198)])), Arc((100, 99), (99, 100)))

    def test_hooks(self):
        hook = Piece('a', [box(0, 0, 2, 6), box(2, 0, 4, 2), box(4, 2, 2, 2)])
        other = Piece('b', [box(2, 2, 2, 6), box(4, 6, 4, 2), box(6, 2, 2, 4)])
        self.assertEqual(arc_of(hook, other), Arc((0, -1), (0, -1)))
        self.assertEqual(arc_of(other, hook), Arc((0, 1), (0, 1)))

    def test_the_facts_by_chance(self):
        chance = random.Random(22)
        kinds = set()
        for piece, other in pairs_of_pieces(chance, 40) + [(INNER, FRAME), (FRAME, INNER)]:
            arc = arc_of(piece, other)
            kinds.add((len(arc), len(piece), len(other)))
            self.assertEqual(arc_of(other, piece), arc.turned())
            for end in arc.ends():
                self.assertNotIn(end, arc)
            for direction in chance.sample(piece_probes(piece, other), 8) + arc.ends():
                self.assertIs(direction in arc, bars_piece(piece, other, direction), (piece.parts(), other.parts(), direction))
        self.assertEqual({many for many, _, _ in kinds}, {0, 1, 2})
        self.assertEqual({one for _, one, _ in kinds}, {1, 2, 3, 4})

    def test_all_directions_of_all_parts_together(self):
        for piece, other in pairs_of_pieces(random.Random(23), 60):
            arc = arc_of(piece, other)
            arcs = [part_arc(part, beside) for part in piece.parts() for beside in other.parts()]
            for direction in with_between([end for each in arcs for end in each.ends()]):
                self.assertIs(direction in arc, any(direction in each for each in arcs))

    def test_moved_turned_and_mirrored(self):
        for piece, other in pairs_of_pieces(random.Random(24), 40):
            arc = arc_of(piece, other)
            self.assertEqual(arc_of(piece.moved(-30, 50), other.moved(-30, 50)), arc)
            ends = [(-v, u) for u, v in arc.ends()]
            self.assertEqual(arc_of(piece.turned(), other.turned()).ends(), ends)
            ends = [(v, -u) for u, v in arc.ends()]
            self.assertEqual(arc_of(piece.turned(-1), other.turned(3)).ends(), ends)
            # Left and right are exchanged, so the end that was the start is the stop.
            ends = [(-u, v) for u, v in arc.ends()][::-1]
            self.assertEqual(arc_of(piece.mirrored(), other.mirrored()).ends(), ends)

    def test_things_that_are_moved_turned_and_mirrored(self):
        thing = Thing([GROOVE, TONGUE, Piece('x', [box(9, 1), box(11, 1)])])
        for changed, led in [(thing.moved(3, 4), lambda u, v: (u, v)), (thing.turned(), lambda u, v: (-v, u)),
                             (thing.turned(2), lambda u, v: (-u, -v)), (thing.mirrored(), lambda u, v: (-u, v))]:
            for one in thing.names():
                for other in thing.names():
                    if one != other:
                        before = arc_of(thing.piece(one), thing.piece(other))
                        behind = arc_of(changed.piece(one), changed.piece(other))
                        for u, v in FAR:
                            self.assertIs(led(u, v) in behind, (u, v) in before)


class BarsTests(unittest.TestCase):
    def test_values(self):
        for direction in with_between(FAR[:4]):
            self.assertIs(bars(TONGUE, GROOVE, direction), direction != (0, 1))
            self.assertIs(bars(GROOVE, TONGUE, direction), direction != (0, -1))
            self.assertIs(bars(INNER, FRAME, direction), True)
            self.assertIs(bars(direction=direction, other=INNER, piece=FRAME), True)
        one, other = Piece('a', [SQUARE]), Piece('b', [box(2, 0)])
        self.assertEqual([bars(one, other, direction) for direction in FAR],
                         [True, False, False, False, True, False, False, True])

    def test_in_the_arc(self):
        for piece, other in pairs_of_pieces(random.Random(25), 40):
            arc = arc_of(piece, other)
            for direction in FAR + arc.ends():
                self.assertIs(bars(piece, other, direction), direction in arc)


class SidesTests(unittest.TestCase):
    def check(self, piece, other, direction):
        found = sides(piece, other, direction)
        if bars_piece(piece, other, direction):
            self.assertIsNone(found)
            return False
        self.assertIsInstance(found, list)
        pairs = [(i, j) for i in range(len(piece)) for j in range(len(other))]
        self.assertEqual([item[:2] for item in found], pairs)
        for i, j, side in found:
            self.assertIsInstance(side, tuple)
            self.assertTrue(is_side(side, piece.parts()[i], other.parts()[j], direction))
        self.assertEqual(sides(piece, other, direction), found)
        return True

    def test_tongue_and_groove(self):
        for direction in FAR:
            self.assertIs(self.check(TONGUE, GROOVE, direction), direction == (0, 1))
            self.assertIs(self.check(GROOVE, TONGUE, direction), direction == (0, -1))
            self.assertIs(self.check(INNER, FRAME, direction), False)

    def test_by_chance(self):
        chance = random.Random(26)
        seen = []
        for piece, other in pairs_of_pieces(chance, 30):
            for direction in chance.sample(piece_probes(piece, other), 3) + arc_of(piece, other).ends():
                seen.append(self.check(piece, other, direction))
        self.assertTrue(30 < sum(seen) < len(seen) - 30)

    def test_the_list_is_new(self):
        found = sides(TONGUE, GROOVE, (0, 1))
        before = list(found)
        found.clear()
        self.assertEqual(sides(direction=(0, 1), piece=TONGUE, other=GROOVE), before)


class ErrorTests(unittest.TestCase):
    def test_pieces_that_overlap(self):
        fat = Piece('fat', [box(1, 2, 2, 2)])
        for call in (arc_of, lambda one, two: bars(one, two, (0, 1)), lambda one, two: sides(one, two, (0, 1))):
            self.assertEqual(caught(call, fat, GROOVE), ('PiecesOverlap', {'one': 'fat', 'other': 'g'}))
            self.assertEqual(caught(call, GROOVE, fat), ('PiecesOverlap', {'one': 'g', 'other': 'fat'}))
            self.assertEqual(caught(call, fat, fat), ('PiecesOverlap', {'one': 'fat', 'other': 'fat'}))

    def test_wrong_directions(self):
        fat = Piece('fat', [box(1, 2, 2, 2)])
        for value in WRONG:
            for call in (bars, sides):
                self.assertEqual(caught(call, TONGUE, GROOVE, value), ('InvalidDirection', {'value': value}))
                self.assertEqual(caught(call, INNER, FRAME, value), ('InvalidDirection', {'value': value}))
                self.assertEqual(caught(call, fat, GROOVE, value), ('PiecesOverlap', {'one': 'fat', 'other': 'g'}))


if __name__ == '__main__':
    unittest.main()
