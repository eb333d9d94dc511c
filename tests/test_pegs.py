import unittest

from samples import any_values, box, caught
from stucklots.pegs import Peg
from stucklots.pieces import Piece

UP = ((3, 8), (0, 1))
ASIDE = ((-5, 2), (2, -3))


class MadeTests(unittest.TestCase):
    def test_attributes_in_whatever_order(self):
        for one, other in [('lid', 'tray'), ('tray', 'lid')]:
            peg = Peg('pin', one, other, [UP])
            self.assertEqual((peg.name, peg.one, peg.other), ('pin', 'lid', 'tray'))

    def test_ways(self):
        self.assertEqual(Peg('pin', 'a', 'b', [UP, ASIDE, UP]).ways(), [UP, ASIDE, UP])
        self.assertEqual(Peg('pin', 'a', 'b', (ASIDE, UP)).ways(), [ASIDE, UP])
        self.assertEqual(Peg('pin', 'a', 'b').ways(), [])
        self.assertEqual(Peg(ways=[UP], other='a', one='b', name='pin'), Peg('pin', 'a', 'b', [UP]))

    def test_is_glue(self):
        self.assertIs(Peg('pin', 'a', 'b').is_glue, True)
        self.assertIs(Peg('pin', 'a', 'b', []).is_glue, True)
        self.assertIs(Peg('pin', 'a', 'b', [UP]).is_glue, False)

    def test_ties(self):
        peg = Peg('pin', 'b', 'a')
        self.assertIs(peg.ties('a', 'b'), True)
        self.assertIs(peg.ties(other='a', one='b'), True)
        for one, other in [('a', 'a'), ('b', 'b'), ('a', 'c'), ('c', 'b'), ('pin', 'a'), ('c', 'd')]:
            self.assertIs(peg.ties(one, other), False)
        for value in any_values():
            self.assertIs(peg.ties('a', value), False)
            self.assertIs(peg.ties(value, 'b'), False)

    def test_len_and_truth(self):
        self.assertEqual([len(Peg('pin', 'a', 'b', [UP] * many)) for many in range(4)], [0, 1, 2, 3])
        self.assertIs(bool(Peg('pin', 'a', 'b')), True)
        self.assertIs(bool(Peg('pin', 'a', 'b', [UP])), True)

    def test_repr(self):
        self.assertEqual(repr(Peg('pin', 'a', 'b', [UP])), 'Peg(pin, 1 ways)')
        self.assertEqual(repr(Peg('glue', 'a', 'b')), 'Peg(glue, 0 ways)')

    def test_equal(self):
        peg = Peg('pin', 'a', 'b', [UP, ASIDE])
        self.assertTrue(peg == Peg('pin', 'b', 'a', (UP, ASIDE)))
        self.assertFalse(peg != Peg('pin', 'b', 'a', (UP, ASIDE)))
        for other in [Peg('nail', 'a', 'b', [UP, ASIDE]), Peg('pin', 'a', 'c', [UP, ASIDE]), Peg('pin', 'c', 'b', [UP, ASIDE]),
                      Peg('pin', 'aa', 'b', [UP, ASIDE]), Peg('pin', 'a', 'b', [ASIDE, UP]), Peg('pin', 'a', 'b', [UP]), Peg('pin', 'a', 'b')]:
            self.assertFalse(peg == other)
            self.assertTrue(peg != other)

    def test_equal_to_nothing_of_another_class(self):
        for value in any_values() + ['pin', 1, Piece('pin', [box(0, 0)]), ('pin', 'a', 'b', [])]:
            self.assertFalse(Peg('pin', 'a', 'b') == value)
            self.assertTrue(Peg('pin', 'a', 'b') != value)

    def test_lists_are_copied(self):
        ways = [UP, ASIDE]
        peg = Peg('pin', 'a', 'b', ways)
        ways.clear()
        peg.ways().append(UP)
        peg.ways()[0] = None
        self.assertEqual(peg.ways(), [UP, ASIDE])
        self.assertEqual(len(peg), 2)


class ErrorTests(unittest.TestCase):
    def test_names(self):
        for value in any_values() + ['seventh', 'Pin', 0, ['pin'], Peg('a', 'b', 'c')]:
            expected = ('InvalidName', {'value': value})
            self.assertEqual(caught(Peg, value, 'a', 'b'), expected)
            self.assertEqual(caught(Peg, 'pin', value, 'b'), expected)
            self.assertEqual(caught(Peg, 'pin', 'a', value), expected)

    def test_the_same_piece(self):
        self.assertEqual(caught(Peg, 'pin', 'a', 'a'), ('InvalidName', {'value': 'a'}))

    def test_the_peg_may_have_the_name_of_a_piece_as_yet(self):
        self.assertEqual(Peg('a', 'a', 'b').one, 'a')

    def test_no_list_of_ways(self):
        for value in [None, True, False, 0, '', 'ab', {}, {0: UP}, Peg('a', 'b', 'c')]:
            self.assertEqual(caught(Peg, 'pin', 'a', 'b', value), ('InvalidWay', {'at': -1}), value)

    def test_an_item_that_is_no_way(self):
        for value in any_values() + [0, list(UP), (list(UP[0]), UP[1]), ((201, 0), (0, 1)), ((0, 0), (0, 2)), Peg('a', 'b', 'c')]:
            self.assertEqual(caught(Peg, 'pin', 'a', 'b', [value]), ('InvalidWay', {'at': 0}), value)
            self.assertEqual(caught(Peg, 'pin', 'a', 'b', (UP, UP, value, None)), ('InvalidWay', {'at': 2}), value)
        self.assertEqual(caught(Peg, 'pin', 'a', 'b', UP), ('InvalidWay', {'at': 0}))

    def test_too_many(self):
        self.assertIsNone(caught(Peg, 'pin', 'a', 'b', [UP] * 3))
        self.assertEqual(caught(Peg, 'pin', 'a', 'b', [UP] * 4), ('TooMany', {'most': 3}))

    def test_the_first_error_by_the_interface(self):
        self.assertEqual(caught(Peg, 'A', 'B', 'C', None), ('InvalidName', {'value': 'A'}))
        self.assertEqual(caught(Peg, 'a', 'B', 'C', None), ('InvalidName', {'value': 'B'}))
        self.assertEqual(caught(Peg, 'a', 'b', 'C', None), ('InvalidName', {'value': 'C'}))
        self.assertEqual(caught(Peg, 'a', 'b', 'b', None), ('InvalidName', {'value': 'b'}))
        self.assertEqual(caught(Peg, 'a', 'B', 'B', None), ('InvalidName', {'value': 'B'}))
        self.assertEqual(caught(Peg, 'a', 'b', 'c', [UP] * 4 + [None]), ('InvalidWay', {'at': 4}))


class WithWayTests(unittest.TestCase):
    def test_a_way_more(self):
        peg = Peg('pin', 'b', 'a', [UP])
        self.assertEqual(peg.with_way(ASIDE), Peg('pin', 'a', 'b', [UP, ASIDE]))
        self.assertEqual(peg.with_way(way=UP).ways(), [UP, UP])
        self.assertEqual(Peg('pin', 'a', 'b').with_way(UP), peg)
        self.assertEqual(peg.ways(), [UP])

    def test_errors(self):
        for many in range(4):
            peg = Peg('pin', 'a', 'b', [UP] * many)
            for value in any_values() + [list(UP), ((0, 0), (2, 2))]:
                self.assertEqual(caught(peg.with_way, value), ('InvalidWay', {'at': many}))
        self.assertEqual(caught(Peg('pin', 'a', 'b', [UP] * 3).with_way, UP), ('TooMany', {'most': 3}))


class CarriedTests(unittest.TestCase):
    peg = Peg('pin', 'a', 'b', [UP, ASIDE])

    def test_moved(self):
        self.assertEqual(self.peg.moved(10, -20), Peg('pin', 'a', 'b', [((13, -12), (0, 1)), ((5, -18), (2, -3))]))
        self.assertEqual(self.peg.moved(up=2, right=1).ways()[0], ((4, 10), (0, 1)))

    def test_moved_up_to_the_bounds_and_beyond(self):
        for right, up, over in [(197, 0, (1, 0)), (-195, 0, (-1, 0)), (0, 192, (0, 1)), (0, -202, (0, -1))]:
            self.assertEqual(len(self.peg.moved(right, up)), 2)
            self.assertEqual(caught(self.peg.moved, right + over[0], up + over[1]), ('OutOfBounds', {}))
        self.assertEqual(caught(self.peg.moved, 999999999, 0), ('OutOfBounds', {}))

    def test_turned(self):
        self.assertEqual(self.peg.turned(), Peg('pin', 'a', 'b', [((-8, 3), (-1, 0)), ((-2, -5), (3, 2))]))
        self.assertEqual(self.peg.turned(2), Peg('pin', 'a', 'b', [((-3, -8), (0, -1)), ((5, -2), (-2, 3))]))
        self.assertEqual(self.peg.turned(quarters=-1), Peg('pin', 'a', 'b', [((8, -3), (1, 0)), ((2, 5), (-3, -2))]))
        for quarters in (-4, 0, 4, 5, -999999999, 999999999):
            self.assertEqual(self.peg.turned(quarters), self.peg.turned(quarters % 4))

    def test_mirrored(self):
        self.assertEqual(self.peg.mirrored(), Peg('pin', 'a', 'b', [((-3, 8), (0, 1)), ((5, 2), (-2, -3))]))
        self.assertEqual(self.peg.mirrored().mirrored(), self.peg)

    def test_at_the_bounds(self):
        peg = Peg('pin', 'a', 'b', [((200, -200), (999, -998))])
        self.assertEqual(peg.mirrored().ways(), [((-200, -200), (-999, -998))])
        self.assertEqual(peg.turned().ways(), [((200, 200), (998, 999))])
        self.assertEqual(caught(peg.moved, 1, 0), ('OutOfBounds', {}))
        self.assertEqual(caught(peg.moved, 0, -1), ('OutOfBounds', {}))

    def test_glue_is_moved_anywhere(self):
        glue = Peg('glue', 'a', 'b')
        self.assertEqual(glue.moved(999999999, 0), glue)
        self.assertEqual(glue.turned(), glue)
        self.assertEqual(glue.mirrored(), glue)


if __name__ == '__main__':
    unittest.main()
