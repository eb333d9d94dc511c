import itertools
import random
import unittest

from reference import do_overlap, ray_meets
from samples import any_values, box, caught, random_part, told_from_each_corner
from stucklots.pegs import Peg
from stucklots.pieces import Piece

# Three parts beside one another, and one above the last one.
ROW = [box(0, 0), box(2, 0), box(4, 0), box(4, 2)]
EIGHT = [(1, 0), (1, 1), (0, 1), (-1, 1), (-1, 0), (-1, -1), (0, -1), (1, -1)]


class MadeTests(unittest.TestCase):
    def test_attributes(self):
        piece = Piece('lid', ROW[:2])
        self.assertEqual(piece.name, 'lid')
        self.assertEqual(piece.parts(), ROW[:2])
        self.assertEqual(piece.area, 16)
        self.assertEqual(len(piece), 2)
        self.assertEqual(repr(piece), 'Piece(lid, 2 parts)')
        self.assertEqual(repr(Piece('a', ROW[:1])), 'Piece(a, 1 parts)')
        self.assertEqual(Piece.PARTS, 4)
        self.assertEqual(piece.PARTS, 4)
        self.assertTrue(piece)

    def test_parts_in_whatever_order(self):
        for parts in itertools.permutations(ROW):
            self.assertEqual(Piece('a', parts).parts(), ROW)
            self.assertEqual(Piece('a', list(parts)), Piece('a', ROW))

    def test_parts_from_whatever_corner(self):
        for told in itertools.product(*[told_from_each_corner(part) for part in ROW[:3]]):
            self.assertEqual(Piece('a', told[::-1]).parts(), ROW[:3])

    def test_area_of_all_parts(self):
        triangles = [((0, 0), (3, 0), (0, 3)), ((3, 0), (3, 3), (0, 3))]
        self.assertEqual([Piece('a', triangles).area, Piece('a', triangles[1:]).area], [18, 9])
        self.assertEqual([Piece('a', ROW[:many]).area for many in (1, 2, 3, 4)], [8, 16, 24, 32])

    def test_by_name(self):
        self.assertEqual(Piece(parts=ROW, name='a'), Piece('a', ROW))

    def test_equal(self):
        self.assertTrue(Piece('a', ROW) == Piece('a', tuple(ROW[::-1])))
        self.assertFalse(Piece('a', ROW) != Piece('a', ROW))
        self.assertFalse(Piece('a', ROW) == Piece('b', ROW))
        self.assertTrue(Piece('a', ROW) != Piece('b', ROW))
        self.assertFalse(Piece('a', ROW) == Piece('a', ROW[:3]))
        self.assertFalse(Piece('a', [box(0, 0)]) == Piece('a', [box(0, 0, 2, 3)]))

    def test_equal_to_nothing_of_another_class(self):
        for value in any_values() + ['a', 1, Peg('a', 'b', 'c'), ('a', ROW), ROW]:
            self.assertFalse(Piece('a', ROW) == value)
            self.assertTrue(Piece('a', ROW) != value)

    def test_lists_are_copied(self):
        parts = list(ROW)
        piece = Piece('a', parts)
        parts.append(box(9, 9))
        parts[0] = None
        piece.parts().clear()
        piece.parts()[0] = None
        self.assertEqual(piece.parts(), ROW)
        self.assertEqual((len(piece), piece.area), (4, 32))

    def test_nothing_that_is_passed_is_changed(self):
        parts = [part[2:] + part[:2] for part in ROW[::-1]]
        passed = list(parts)
        Piece('a', passed)
        self.assertEqual(passed, parts)


class ErrorTests(unittest.TestCase):
    def test_names(self):
        for value in any_values() + ['Lid', 'seventh', 0, ['a'], Peg('a', 'b', 'c')]:
            for parts in [ROW, [], None]:
                self.assertEqual(caught(Piece, value, parts), ('InvalidName', {'value': value}))

    def test_no_list_of_parts(self):
        for value in [None, True, 0, 5, '', 'abc', {}, {0: ROW[0]}, [], (), Piece('a', ROW), Peg('a', 'b', 'c')]:
            self.assertEqual(caught(Piece, 'a', value), ('InvalidPart', {'at': -1}), value)

    def test_an_item_that_is_no_part(self):
        for value in any_values() + [list(ROW[0]), ROW[0][::-1], ROW[0][:2], ((0, 0), (201, 0), (0, 1)), Piece('a', ROW)]:
            self.assertEqual(caught(Piece, 'a', [value]), ('InvalidPart', {'at': 0}), value)
            self.assertEqual(caught(Piece, 'a', (ROW[0], ROW[1], value, None)), ('InvalidPart', {'at': 2}), value)
        self.assertEqual(caught(Piece, 'a', ROW[0]), ('InvalidPart', {'at': 0}))

    def test_too_many(self):
        many = [box(2 * at, 0) for at in range(6)]
        self.assertIsNone(caught(Piece, 'a', many[:4]))
        self.assertEqual(caught(Piece, 'a', many[:5]), ('TooMany', {'most': 4}))
        self.assertEqual(caught(Piece, 'a', many), ('TooMany', {'most': 4}))

    def test_overlapping_parts(self):
        self.assertEqual(caught(Piece, 'a', [ROW[0], ROW[0]]), ('PartsOverlap', {'one': 0, 'other': 1}))
        parts = [box(0, 0), box(2, 0), box(3, 0), box(1, 0)]
        self.assertEqual(caught(Piece, 'a', parts), ('PartsOverlap', {'one': 0, 'other': 3}))
        parts = [box(9, 0), box(2, 0), box(4, 0), box(3, 1)]
        self.assertEqual(caught(Piece, 'a', parts), ('PartsOverlap', {'one': 1, 'other': 3}))
        parts = [box(0, 0), box(8, 0), box(4, 0), box(5, 1)]
        self.assertEqual(caught(Piece, 'a', parts), ('PartsOverlap', {'one': 2, 'other': 3}))

    def test_loose_parts(self):
        far = ((5, 5), (6, 5), (5, 6))
        self.assertEqual(caught(Piece, 'a', [((0, 0), (1, 0), (0, 1)), far]), ('Loose', {'at': 1}))
        self.assertEqual(caught(Piece, 'a', [box(0, 0), box(2, 0), box(9, 0), box(4, 0)]), ('Loose', {'at': 2}))
        self.assertEqual(caught(Piece, 'a', [box(0, 0), box(6, 0), box(2, 0), box(8, 0)]), ('Loose', {'at': 1}))
        self.assertEqual(caught(Piece, 'a', [box(0, 0), box(2, 0), box(4, 0), box(9, 0)]), ('Loose', {'at': 3}))
        self.assertEqual(caught(Piece, 'a', [box(9, 0), box(0, 0), box(2, 0)]), ('Loose', {'at': 1}))

    def test_a_shared_corner_does_not_join(self):
        self.assertEqual(caught(Piece, 'a', [box(0, 0), box(2, 2)]), ('Loose', {'at': 1}))
        self.assertIsNone(caught(Piece, 'a', [box(0, 0), box(2, 2), box(0, 2)]))

    def test_a_chain_in_any_order_hangs_together(self):
        chain = [box(0, 0), box(2, 1), box(4, 2), box(6, 3)]
        for parts in itertools.permutations(chain):
            self.assertIsNone(caught(Piece, 'a', parts))

    def test_the_first_error_by_the_interface(self):
        overlapping = [box(0, 0), box(9, 9), box(0, 0)]
        self.assertEqual(caught(Piece, 'A', [None])[0], 'InvalidName')
        self.assertEqual(caught(Piece, 'a', overlapping * 2 + [None]), ('InvalidPart', {'at': 6}))
        self.assertEqual(caught(Piece, 'a', overlapping * 2), ('TooMany', {'most': 4}))
        self.assertEqual(caught(Piece, 'a', overlapping), ('PartsOverlap', {'one': 0, 'other': 2}))


class OverlapsTests(unittest.TestCase):
    def test_values(self):
        groove = Piece('g', [box(0, 0, 6, 2), box(0, 2, 2, 4), box(4, 2, 2, 4)])
        self.assertIs(groove.overlaps(Piece('t', [box(2, 2, 2, 4)])), False)
        self.assertIs(groove.overlaps(Piece('t', [box(2, 1, 2, 4)])), True)
        self.assertIs(groove.overlaps(Piece('t', [box(8, 0), box(5, 2, 3, 1), box(8, 2)])), True)
        self.assertIs(groove.overlaps(other=groove), True)
        self.assertIs(groove.overlaps(Piece('t', [box(20, 0)])), False)

    def test_by_chance_in_both_orders(self):
        chance = random.Random(6)
        for _ in range(100):
            parts = [random_part(chance, 4), random_part(chance, 4)]
            one, other = Piece('a', parts[:1]), Piece('b', parts[1:])
            self.assertIs(one.overlaps(other), do_overlap(*parts))
            self.assertIs(other.overlaps(one), do_overlap(*parts))


class CarriedTests(unittest.TestCase):
    corner = Piece('a', [((0, 0), (3, 0), (0, 1)), ((0, 1), (3, 0), (3, 5))])

    def test_moved(self):
        self.assertEqual(self.corner.moved(10, -20).parts(),
                         [((10, -20), (13, -20), (10, -19)), ((10, -19), (13, -20), (13, -15))])
        self.assertEqual(self.corner.moved(up=1, right=0), Piece('a', [((0, 1), (3, 1), (0, 2)), ((0, 2), (3, 1), (3, 6))]))
        self.assertEqual(self.corner.moved(0, 0), self.corner)
        self.assertEqual(self.corner.moved(5, 7).moved(-5, -7), self.corner)

    def test_moved_up_to_the_bounds_and_beyond(self):
        for right, up, over in [(197, 0, (1, 0)), (-200, 0, (-1, 0)), (0, 195, (0, 1)), (0, -200, (0, -1))]:
            self.assertEqual(len(self.corner.moved(right, up)), 2)
            self.assertEqual(caught(self.corner.moved, right + over[0], up + over[1]), ('OutOfBounds', {}))
        self.assertEqual(caught(self.corner.moved, 999999999, -999999999), ('OutOfBounds', {}))

    def test_turned(self):
        self.assertEqual(self.corner.turned().parts(), [((-5, 3), (-1, 0), (0, 3)), ((-1, 0), (0, 0), (0, 3))])
        self.assertEqual(self.corner.turned(1), self.corner.turned())
        self.assertEqual(self.corner.turned(2).parts(), [((-3, -5), (0, -1), (-3, 0)), ((-3, 0), (0, -1), (0, 0))])
        self.assertEqual(self.corner.turned(quarters=3), self.corner.turned().turned().turned())

    def test_turned_by_other_numbers_of_quarters(self):
        for quarters in (-1, -2, -3, -4, 0, 4, 5, 999999999, -999999999, 400, -401):
            self.assertEqual(self.corner.turned(quarters), self.corner.turned(quarters % 4))
        self.assertEqual(self.corner.turned(0), self.corner)
        self.assertEqual(self.corner.turned(-1).turned(), self.corner)

    def test_mirrored(self):
        self.assertEqual(self.corner.mirrored().parts(), [((-3, 0), (0, 0), (0, 1)), ((-3, 0), (0, 1), (-3, 5))])
        self.assertEqual(self.corner.mirrored().mirrored(), self.corner)

    def test_at_the_bounds(self):
        piece = Piece('a', [((-200, -200), (200, -200), (200, 200)), ((-200, -200), (200, 200), (-200, 200))])
        for quarters in range(-5, 6):
            self.assertEqual(piece.turned(quarters).turned(-quarters), piece)
        self.assertEqual(piece.mirrored(), piece.turned())
        for step in [(1, 0), (-1, 0), (0, 1), (0, -1)]:
            self.assertEqual(caught(piece.moved, *step), ('OutOfBounds', {}))
        self.assertEqual(piece.moved(0, 0), piece)

    def test_name_and_area_stay_and_the_piece_does_not_change(self):
        before = self.corner.parts()
        for fresh in [self.corner.moved(1, 2), self.corner.turned(), self.corner.mirrored()]:
            self.assertEqual((fresh.name, fresh.area, len(fresh)), ('a', self.corner.area, 2))
        self.assertEqual(self.corner.parts(), before)


class BarsWayTests(unittest.TestCase):
    square = Piece('a', [box(0, 0, 4, 4)])
    double = Piece('a', [box(0, 0, 4, 2), box(0, 2, 4, 2)])

    def test_from_outside(self):
        self.assertIs(self.square.bars_way(((-3, 1), (1, 0))), True)
        self.assertIs(self.square.bars_way(((-3, 1), (-1, 0))), False)
        self.assertIs(self.square.bars_way(((-3, 1), (0, 1))), False)
        self.assertIs(self.square.bars_way(((-3, -3), (1, 1))), True)
        self.assertIs(self.square.bars_way(((-3, 5), (1, 1))), False)

    def test_along_an_edge(self):
        for point in [(-3, 0), (0, 0), (1, 0), (4, 0), (7, 0)]:
            self.assertIs(self.square.bars_way((point, (1, 0))), False, point)
            self.assertIs(self.square.bars_way((point, (-1, 0))), False, point)

    def test_along_the_stretch_between_two_parts(self):
        for point in [(-3, 2), (0, 2), (2, 2), (4, 2), (9, 2)]:
            self.assertIs(self.double.bars_way((point, (1, 0))), False, point)
            self.assertIs(self.double.bars_way((point, (-1, 0))), False, point)
        self.assertIs(self.double.bars_way(((-3, 2), (999, 1))), True)
        self.assertIs(self.double.bars_way(((2, 2), (0, 1))), True)

    def test_from_inside(self):
        for direction in EIGHT:
            self.assertIs(self.square.bars_way(((1, 2), direction)), True)

    def test_from_a_corner(self):
        found = [self.square.bars_way(((0, 0), direction)) for direction in EIGHT]
        self.assertEqual(found, [False, True] + [False] * 6)
        found = [self.square.bars_way(((4, 4), direction)) for direction in EIGHT]
        self.assertEqual(found, [False] * 5 + [True] + [False] * 2)

    def test_from_an_edge(self):
        found = [self.square.bars_way(((2, 0), direction)) for direction in EIGHT]
        self.assertEqual(found, [False, True, True, True] + [False] * 4)

    def test_from_behind(self):
        self.assertIs(self.square.bars_way(((7, 1), (1, 0))), False)
        self.assertIs(self.square.bars_way(((4, 1), (1, 0))), False)
        self.assertIs(self.square.bars_way(((4, 1), (-1, 0))), True)

    def test_past_a_corner(self):
        self.assertIs(self.square.bars_way(((-2, 2), (1, 1))), False)
        self.assertIs(self.square.bars_way(((-4, -4), (1, 2))), False)
        self.assertIs(self.square.bars_way(((-4, -4), (2, 1))), False)
        self.assertIs(self.square.bars_way(((-4, -4), (999, 998))), True)

    def test_one_of_several_parts_is_enough(self):
        piece = Piece('a', [box(0, 0), box(2, 0), box(4, 0), box(4, 2)])
        self.assertIs(piece.bars_way(((0, 3), (1, 0))), True)
        self.assertIs(piece.bars_way(way=((0, 4), (1, 0))), False)
        self.assertIs(piece.bars_way(((3, 2), (0, 1))), False)

    def test_by_chance(self):
        chance = random.Random(7)
        seen = []
        for _ in range(300):
            part = random_part(chance, 4)
            way = ((chance.randint(-6, 6), chance.randint(-6, 6)), chance.choice(EIGHT + [(2, 1), (-1, 3), (3, -2)]))
            expected = ray_meets(part, way)
            self.assertIs(Piece('a', [part]).bars_way(way), expected, (part, way))
            seen.append(expected)
        self.assertTrue(30 < sum(seen) < 270)


if __name__ == '__main__':
    unittest.main()
