import itertools
import unittest

from samples import any_values, box, caught
from stucklots.pegs import Peg
from stucklots.pieces import Piece
from stucklots.things import Thing

A = Piece('a', [box(0, 0)])
B = Piece('b', [box(2, 0), box(4, 0)])
C = Piece('c', [((0, 2), (2, 2), (0, 4))])
PIN = Peg('pin', 'b', 'a', [((1, 1), (0, 1)), ((3, 1), (0, -1))])
GLUE = Peg('glue', 'a', 'c')


def thing():
    return Thing([C, A, B], [PIN, GLUE])


def names_from(many, first='a'):
    return [chr(ord(first) + at) for at in range(many)]


def row_of_pieces(many):
    return [Piece(name, [box(2 * at, 0)]) for at, name in enumerate(names_from(many))]


def glue_between(many, one='a', other='b'):
    return [Peg(name, one, other) for name in names_from(many, 'n')]


def other_values():
    """Any values, none of which is the name of a piece or a peg of the thing."""
    return any_values() + ['d', 'x', 0, ['a'], ('a',), {'a': 'pin'}, A, PIN, thing(), [[[[[[[['a']]]]]]]]]


class MadeTests(unittest.TestCase):
    def test_names_and_pieces(self):
        for pieces in itertools.permutations([A, B, C]):
            made = Thing(pieces)
            self.assertEqual(made.names(), ['a', 'b', 'c'])
            self.assertEqual(made.pieces(), [A, B, C])
            self.assertEqual(made.pegs(), [])
            self.assertEqual(made.peg_names(), [])

    def test_pegs(self):
        for pegs in ([PIN, GLUE], (GLUE, PIN)):
            made = Thing(pegs=pegs, pieces=[A, B, C])
            self.assertEqual(made.peg_names(), ['glue', 'pin'])
            self.assertEqual(made.pegs(), [GLUE, PIN])

    def test_piece_and_peg_by_name(self):
        self.assertEqual([thing().piece(name) for name in 'abc'], [A, B, C])
        self.assertEqual([thing().peg_called('pin'), thing().peg_called(name='glue')], [PIN, GLUE])
        self.assertEqual(thing().piece(name='b'), B)
        for value in other_values():
            self.assertEqual(caught(thing().piece, value), ('UnknownName', {'name': value}))
            self.assertEqual(caught(thing().peg_called, value), ('UnknownName', {'name': value}))
        self.assertEqual(caught(thing().piece, 'pin'), ('UnknownName', {'name': 'pin'}))
        self.assertEqual(caught(thing().peg_called, 'a'), ('UnknownName', {'name': 'a'}))

    def test_pegs_of(self):
        self.assertEqual([thing().pegs_of(name) for name in 'abc'], [['glue', 'pin'], ['pin'], ['glue']])
        self.assertEqual(Thing([A, B]).pegs_of(name='a'), [])
        for value in other_values() + ['pin', 'glue']:
            self.assertEqual(caught(thing().pegs_of, value), ('UnknownName', {'name': value}))

    def test_in(self):
        self.assertEqual([name in thing() for name in ('a', 'b', 'c')], [True] * 3)
        for value in other_values() + ['pin', 'glue']:
            self.assertIs(value in thing(), False, value)
            self.assertIs(value not in thing(), True, value)

    def test_len_repr_and_class_values(self):
        self.assertEqual([len(thing()), len(Thing([A]))], [3, 1])
        self.assertEqual([repr(thing()), repr(Thing([A]))], ['Thing(3 pieces, 2 pegs)', 'Thing(1 pieces, 0 pegs)'])
        self.assertEqual([Thing.PIECES, Thing.PEGS, thing().PIECES, thing().PEGS], [9, 8, 9, 8])
        self.assertTrue(Thing([A]))

    def test_equal(self):
        self.assertTrue(thing() == Thing((A, B, C), (GLUE, PIN)))
        self.assertFalse(thing() != Thing([B, C, A], [GLUE, PIN]))
        for other in [Thing([A, B, C], [PIN]), Thing([A, B, C]), Thing([A, B], [PIN]), thing().moved(1, 0),
                      Thing([A, B, C], [PIN, GLUE.with_way(((0, 0), (1, 0)))])]:
            self.assertFalse(thing() == other)
            self.assertTrue(thing() != other)
        self.assertFalse(Thing([A]) == Thing([Piece('b', A.parts())]))

    def test_equal_to_nothing_of_another_class(self):
        for value in any_values() + ['a', 1, A, PIN, [A], thing().text()]:
            self.assertFalse(Thing([A]) == value)
            self.assertTrue(Thing([A]) != value)

    def test_the_most_pieces_and_pegs(self):
        made = Thing(row_of_pieces(9), glue_between(8))
        self.assertEqual([len(made), len(made.pegs()), repr(made)], [9, 8, 'Thing(9 pieces, 8 pegs)'])

    def test_pieces_need_not_touch(self):
        self.assertEqual(len(Thing([A, Piece('far', [box(100, 100)])], [Peg('pin', 'a', 'far')])), 2)

    def test_lists_are_copied(self):
        pieces, pegs = [A, B, C], [PIN, GLUE]
        made = Thing(pieces, pegs)
        pieces.clear()
        pegs[0] = None
        for found in [made.names(), made.pieces(), made.peg_names(), made.pegs(), made.pegs_of('a')]:
            found.clear()
        made.piece('a').parts().clear()
        made.peg_called('pin').ways().clear()
        made.pieces()[0] = None
        made.pegs()[0].ways().append(None)
        self.assertEqual(made, thing())
        self.assertEqual(made.text(), thing().text())

    def test_nothing_that_is_passed_is_changed(self):
        pieces, pegs, names = [C, A, B], [PIN, GLUE], ['c', 'a', 'c']
        Thing(pieces, pegs).part_of(names)
        self.assertEqual((pieces, pegs, names), ([C, A, B], [PIN, GLUE], ['c', 'a', 'c']))


class ErrorTests(unittest.TestCase):
    def test_no_list_of_pieces(self):
        for value in [None, True, 0, 'abc', '', {}, {'a': A}, [], (), A, PIN, thing()]:
            self.assertEqual(caught(Thing, value), ('InvalidPiece', {'at': -1}), value)

    def test_an_item_that_is_no_piece(self):
        for value in any_values() + [0, 'a', PIN, thing(), [A], (A,)]:
            self.assertEqual(caught(Thing, [value]), ('InvalidPiece', {'at': 0}))
            self.assertEqual(caught(Thing, (A, B, value, None)), ('InvalidPiece', {'at': 2}))

    def test_too_many_pieces(self):
        self.assertIsNone(caught(Thing, row_of_pieces(9)))
        self.assertEqual(caught(Thing, row_of_pieces(10)), ('TooMany', {'most': 9}))

    def test_the_name_of_a_piece_twice(self):
        again = Piece('b', [box(50, 50)])
        third = Piece('a', [box(60, 60)])
        self.assertEqual(caught(Thing, [A, B, again, third]), ('DuplicateName', {'name': 'b'}))
        self.assertEqual(caught(Thing, [A, B, third, again]), ('DuplicateName', {'name': 'a'}))
        self.assertEqual(caught(Thing, [A, A]), ('DuplicateName', {'name': 'a'}))

    def test_overlapping_pieces(self):
        over = Piece('o', [box(1, 0, 2, 1)])
        self.assertEqual(caught(Thing, [A, B, over]), ('PiecesOverlap', {'one': 'a', 'other': 'o'}))
        self.assertEqual(caught(Thing, [C, over, B, A]), ('PiecesOverlap', {'one': 'o', 'other': 'b'}))
        self.assertEqual(caught(Thing, [B, C, A, over]), ('PiecesOverlap', {'one': 'b', 'other': 'o'}))
        self.assertEqual(caught(Thing, [C, Piece('d', C.parts())]), ('PiecesOverlap', {'one': 'c', 'other': 'd'}))

    def test_the_pairs_of_indexes_are_ascending(self):
        early = Piece('x', [box(0, 0)])
        late = Piece('y', [box(2, 0)])
        self.assertEqual(caught(Thing, [A, B, late, early]), ('PiecesOverlap', {'one': 'a', 'other': 'x'}))

    def test_no_list_of_pegs(self):
        for value in [None, True, 0, 'abc', '', {}, {'pin': PIN}, A, PIN, thing()]:
            self.assertEqual(caught(Thing, [A, B, C], value), ('InvalidPeg', {'at': -1}), value)

    def test_an_item_that_is_no_peg(self):
        for value in any_values() + [0, 'pin', A, thing(), [PIN]]:
            self.assertEqual(caught(Thing, [A, B, C], [value]), ('InvalidPeg', {'at': 0}))
            self.assertEqual(caught(Thing, [A, B, C], (PIN, GLUE, value, None)), ('InvalidPeg', {'at': 2}))

    def test_too_many_pegs(self):
        self.assertEqual(caught(Thing, [A, B], glue_between(9)), ('TooMany', {'most': 8}))

    def test_the_names_of_pegs(self):
        for pegs, name in [([Peg('a', 'a', 'b')], 'a'), ([PIN, PIN], 'pin'), ([PIN, Peg('c', 'a', 'b')], 'c'),
                           ([PIN, GLUE, Peg('glue', 'b', 'c'), Peg('a', 'b', 'c')], 'glue')]:
            self.assertEqual(caught(Thing, [A, B, C], pegs), ('DuplicateName', {'name': name}))

    def test_unknown_pieces(self):
        for peg, name in [(Peg('pin', 'x', 'y'), 'x'), (Peg('pin', 'y', 'x'), 'x'), (Peg('pin', 'b', 'x'), 'x'),
                          (Peg('pin', 'aa', 'b'), 'aa'), (Peg('pin', 'glue', 'a'), 'glue')]:
            self.assertEqual(caught(Thing, [A, B, C], [GLUE, peg]), ('UnknownName', {'name': name}))

    def test_each_peg_in_turn(self):
        unknown, double = Peg('pin', 'a', 'x'), Peg('b', 'y', 'z')
        self.assertEqual(caught(Thing, [A, B, C], [unknown, double]), ('UnknownName', {'name': 'x'}))
        self.assertEqual(caught(Thing, [A, B, C], [double, unknown]), ('DuplicateName', {'name': 'b'}))

    def test_the_first_error_by_the_interface(self):
        over = Piece('b', [box(0, 0)])
        self.assertEqual(caught(Thing, row_of_pieces(10) + [None], None), ('InvalidPiece', {'at': 10}))
        self.assertEqual(caught(Thing, row_of_pieces(9) + [A], None), ('TooMany', {'most': 9}))
        self.assertEqual(caught(Thing, [A, B, over], None), ('DuplicateName', {'name': 'b'}))
        self.assertEqual(caught(Thing, [A, over], None), ('PiecesOverlap', {'one': 'a', 'other': 'b'}))
        self.assertEqual(caught(Thing, [A, B], [PIN] * 9 + [None]), ('InvalidPeg', {'at': 9}))
        self.assertEqual(caught(Thing, [A, B], [PIN] * 9), ('TooMany', {'most': 8}))


class WithPieceTests(unittest.TestCase):
    def test_a_piece_more(self):
        small = Thing([B, A], [PIN])
        self.assertEqual(small.with_piece(C), Thing([A, B, C], [PIN]))
        self.assertEqual(small.with_piece(piece=C).names(), ['a', 'b', 'c'])
        self.assertEqual(small, Thing([A, B], [PIN]))

    def test_errors(self):
        for value in any_values() + ['a', 0, PIN, thing(), [A]]:
            self.assertEqual(caught(thing().with_piece, value), ('InvalidPiece', {'at': 3}))
        full = Thing(row_of_pieces(9))
        self.assertEqual(caught(full.with_piece, None), ('InvalidPiece', {'at': 9}))
        self.assertEqual(caught(full.with_piece, A), ('TooMany', {'most': 9}))
        for name in ['a', 'b', 'pin', 'glue']:
            for place in (box(50, 50), box(0, 0)):
                self.assertEqual(caught(thing().with_piece, Piece(name, [place])), ('DuplicateName', {'name': name}))

    def test_overlapping(self):
        self.assertEqual(caught(thing().with_piece, Piece('x', [box(1, 0)])), ('PiecesOverlap', {'one': 'a', 'other': 'x'}))
        self.assertEqual(caught(thing().with_piece, Piece('aa', [box(3, 1)])), ('PiecesOverlap', {'one': 'b', 'other': 'aa'}))
        mixed = Thing([Piece('z', [box(0, 0)]), Piece('y', [box(2, 0)])])
        self.assertEqual(caught(mixed.with_piece, Piece('a', [box(1, 0)])), ('PiecesOverlap', {'one': 'y', 'other': 'a'}))


class WithoutPieceTests(unittest.TestCase):
    def test_a_piece_less(self):
        self.assertEqual(thing().without_piece('a'), Thing([B, C]))
        self.assertEqual(thing().without_piece('b'), Thing([A, C], [GLUE]))
        self.assertEqual(thing().without_piece(name='c'), Thing([A, B], [PIN]))

    def test_errors(self):
        for value in other_values() + ['pin']:
            self.assertEqual(caught(thing().without_piece, value), ('UnknownName', {'name': value}))
            self.assertEqual(caught(Thing([Piece('q', [box(0, 0)])]).without_piece, value), ('UnknownName', {'name': value}))
        self.assertEqual(caught(Thing([A]).without_piece, 'a'), ('TooMany', {'most': 0}))


class PegChangeTests(unittest.TestCase):
    def test_a_peg_more(self):
        self.assertEqual(Thing([A, B, C], [GLUE]).with_peg(PIN), thing())
        self.assertEqual(Thing([A, B, C]).with_peg(peg=PIN).pegs(), [PIN])

    def test_errors_of_a_peg_more(self):
        for value in any_values() + ['pin', 0, A, thing(), [PIN]]:
            self.assertEqual(caught(thing().with_peg, value), ('InvalidPeg', {'at': 2}))
        full = Thing([A, B], glue_between(8))
        self.assertEqual(caught(full.with_peg, None), ('InvalidPeg', {'at': 8}))
        self.assertEqual(caught(full.with_peg, Peg('a', 'x', 'y')), ('TooMany', {'most': 8}))
        for name in ['a', 'c', 'pin', 'glue']:
            self.assertEqual(caught(thing().with_peg, Peg(name, 'x', 'y')), ('DuplicateName', {'name': name}))
        self.assertEqual(caught(thing().with_peg, Peg('nail', 'x', 'w')), ('UnknownName', {'name': 'w'}))
        self.assertEqual(caught(thing().with_peg, Peg('nail', 'x', 'a')), ('UnknownName', {'name': 'x'}))

    def test_a_peg_less(self):
        self.assertEqual(thing().without_peg('pin'), Thing([A, B, C], [GLUE]))
        self.assertEqual(thing().without_peg(name='glue'), Thing([A, B, C], [PIN]))
        for value in other_values() + ['a', 'c']:
            self.assertEqual(caught(thing().without_peg, value), ('UnknownName', {'name': value}))

    def test_a_way_more(self):
        way = ((7, 7), (-1, 2))
        self.assertEqual(thing().with_way('pin', way), Thing([A, B, C], [GLUE, PIN.with_way(way)]))
        self.assertEqual(thing().with_way(way=way, name='glue'), Thing([A, B, C], [Peg('glue', 'a', 'c', [way]), PIN]))
        self.assertEqual(thing().peg_called('pin'), PIN)

    def test_errors_of_a_way_more(self):
        for value in other_values() + ['a', 'c']:
            self.assertEqual(caught(thing().with_way, value, None), ('UnknownName', {'name': value}))
        for value in any_values():
            self.assertEqual(caught(thing().with_way, 'pin', value), ('InvalidWay', {'at': 2}))
            self.assertEqual(caught(thing().with_way, 'glue', value), ('InvalidWay', {'at': 0}))
        full = thing().with_way('pin', ((0, 0), (1, 0)))
        self.assertEqual(caught(full.with_way, 'pin', None), ('InvalidWay', {'at': 3}))
        self.assertEqual(caught(full.with_way, 'pin', ((0, 0), (1, 0))), ('TooMany', {'most': 3}))


class PartOfTests(unittest.TestCase):
    def test_some_pieces(self):
        self.assertEqual(thing().part_of(['c', 'a']), Thing([A, C], [GLUE]))
        self.assertEqual(thing().part_of(names=('b', 'a', 'b')), Thing([A, B], [PIN]))
        self.assertEqual(thing().part_of(['b', 'c']), Thing([B, C]))
        self.assertEqual(thing().part_of(['b']), Thing([B]))
        self.assertEqual(thing().part_of(['c', 'b', 'a']), thing())

    def test_errors(self):
        self.assertEqual(caught(thing().part_of, []), ('InvalidLot', {'at': -1}))
        self.assertEqual(caught(thing().part_of, ()), ('InvalidLot', {'at': -1}))
        for value in [None, True, 0, '', 'abc', {}, {'a': 'a'}, A, thing()]:
            self.assertEqual(caught(thing().part_of, value), ('InvalidLot', {'at': -1}))
        for value in other_values() + ['pin']:
            self.assertEqual(caught(thing().part_of, ['a', value, 'nobody']), ('UnknownName', {'name': value}))


class CarriedTests(unittest.TestCase):
    def test_all_pieces_and_pegs(self):
        for call in [lambda one: one.moved(7, -3), lambda one: one.turned(), lambda one: one.turned(-2),
                     lambda one: one.turned(quarters=999999999), lambda one: one.mirrored(),
                     lambda one: one.moved(up=2, right=1)]:
            self.assertEqual(call(thing()), Thing([call(A), call(B), call(C)], [call(PIN), call(GLUE)]))

    def test_values(self):
        small = Thing([A, Piece('b', [box(2, 0)])], [Peg('pin', 'a', 'b', [((1, 2), (3, 1))])])
        self.assertEqual(small.turned().text(), 'thing\npiece a\npart -2 0 0 0 0 2 -2 2\npiece b\npart -2 2 0 2 0 4 -2 4\n'
                                                'peg pin a b\nway -2 1 -1 3\nend\n')
        self.assertEqual(small.mirrored().text(), 'thing\npiece a\npart -2 0 0 0 0 2 -2 2\npiece b\npart -4 0 -2 0 -2 2 -4 2\n'
                                                  'peg pin a b\nway -1 2 -3 1\nend\n')
        self.assertEqual(small.moved(-1, 5).text(), 'thing\npiece a\npart -1 5 1 5 1 7 -1 7\npiece b\npart 1 5 3 5 3 7 1 7\n'
                                                    'peg pin a b\nway 0 7 3 1\nend\n')

    def test_there_and_back(self):
        for quarters in range(-5, 6):
            self.assertEqual(thing().turned(quarters).turned(-quarters), thing())
        self.assertEqual(thing().mirrored().mirrored(), thing())
        self.assertEqual(thing().moved(100, -50).moved(-100, 50), thing())

    def test_out_of_bounds_by_corners(self):
        plain = Thing([A, B, C])
        for right, up, over in [(194, 0, (1, 0)), (-200, 0, (-1, 0)), (0, 196, (0, 1)), (0, -200, (0, -1))]:
            self.assertEqual(len(plain.moved(right, up)), 3)
            self.assertEqual(caught(plain.moved, right + over[0], up + over[1]), ('OutOfBounds', {}))

    def test_out_of_bounds_by_ways(self):
        wide = Thing([A, B, C], [Peg('pin', 'a', 'b', [((0, 0), (1, 0)), ((190, -190), (1, 0))])])
        self.assertEqual(wide.moved(10, -10).peg_called('pin').ways()[1][0], (200, -200))
        self.assertEqual(caught(wide.moved, 11, 0), ('OutOfBounds', {}))
        self.assertEqual(caught(wide.moved, 0, -11), ('OutOfBounds', {}))


if __name__ == '__main__':
    unittest.main()
