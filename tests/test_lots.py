import itertools
import random
import unittest

from reference import with_between
from reference_lots import all_groups, all_rows, all_sets, free_pegs, leaning_pairs, least_set, lot_is_stuck, sets_that_leave
from samples import DOWN, FRAME, GLUE, GROOVE, HELD, HOOKS, INNER, LEFT, PEGGED_ROW, PIN, RIGHT, ROW, TONGUE, UP
from samples import any_values, box, caught, random_lot, random_thing
from stucklots.arcs import Arc
from stucklots.compass import compass
from stucklots.lots import Lot
from stucklots.pegs import Peg
from stucklots.pieces import Piece
from stucklots.things import Thing

THING = PEGGED_ROW
PLAIN = Thing(ROW)
WRONG_DIRECTIONS = any_values() + [0, 'up', (0, 0), (2, 0), (1000, 1), [1, 0], (True, 0), (1, 0, 0), Arc.whole(), THING]
WRONG_NAMES = any_values() + [0, 'e', 'x', ['a'], ('a',), {'a': 1}, THING, PIN, ROW[0], Lot(THING), [[[[[[[['a']]]]]]]]]


def drawn_lots(seed, many, most=4, pegs=2):
    """Lots by chance of things by chance."""
    chance = random.Random(seed)
    return [random_lot(chance, random_thing(chance, most, pegs)) for _ in range(many)]


def some_directions(lot, many=6, seed=0):
    """Some directions of the compass of a lot and some between them."""
    directions = with_between(lot.compass())
    return random.Random(seed).sample(directions, min(many, len(directions)))


class MadeTests(unittest.TestCase):
    def test_all_pieces_and_pegs(self):
        for lot in (Lot(THING), Lot(THING, None), Lot(THING, None, fast=None), Lot(names=None, thing=THING)):
            self.assertEqual([lot.names(), lot.pegs()], [['a', 'b', 'c', 'd'], ['glue', 'held', 'pin']])
            self.assertEqual(lot.told(), (('a', 'b', 'c', 'd'), ('glue', 'held', 'pin')))
            self.assertEqual(lot.thing, THING)

    def test_some_pieces_in_any_order_several_times(self):
        self.assertEqual(Lot(THING, ['c', 'a', 'c', 'b']).told(), (('a', 'b', 'c'), ('held', 'pin')))
        self.assertEqual(Lot(THING, ('d', 'a')).told(), (('a', 'd'), ('glue',)))
        self.assertEqual(Lot(THING, ['a', 'c']).told(), (('a', 'c'), ()))

    def test_some_pegs_in_any_order_several_times(self):
        self.assertEqual(Lot(THING, fast=['pin', 'glue', 'pin']).told(), (('a', 'b', 'c', 'd'), ('glue', 'pin')))
        self.assertEqual(Lot(THING, ['b', 'a'], fast=('pin',)).told(), (('a', 'b'), ('pin',)))
        for none in ([], ()):
            self.assertEqual(Lot(THING, fast=none).pegs(), [])

    def test_fast_is_keyword_only(self):
        with self.assertRaises(TypeError):
            Lot(THING, None, [])

    def test_compass(self):
        self.assertEqual(Lot(THING).compass(), compass(THING))
        self.assertEqual(Lot(THING, ['a', 'c']).compass(), compass(THING, ['a', 'c']))
        self.assertEqual(Lot(THING, ['b']).compass(), [(1, 0)])

    def test_in(self):
        lot = Lot(THING, ['a', 'c'])
        self.assertEqual([name in lot for name in 'abcd'], [True, False, True, False])
        for value in WRONG_NAMES + ['pin', 'b']:
            self.assertIs(value in lot, False)
            self.assertIs(value not in lot, True)

    def test_len_repr_and_truth(self):
        self.assertEqual([len(Lot(THING)), len(Lot(THING, ['b']))], [4, 1])
        self.assertEqual(repr(Lot(THING, 'a b c'.split(), fast=['pin'])), 'Lot(3 pieces, 1 pegs)')
        self.assertEqual(repr(Lot(THING, ['a'])), 'Lot(1 pieces, 0 pegs)')
        self.assertTrue(Lot(THING, ['a']))

    def test_equal(self):
        self.assertTrue(Lot(THING, ['b', 'a'], fast=['pin']) == Lot(Thing(ROW[::-1], [HELD, GLUE, PIN]), ['a', 'b']))
        self.assertFalse(Lot(THING) != Lot(THING))
        for other in [Lot(THING, ['a', 'b', 'c']), Lot(THING, fast=['pin', 'held']), Lot(THING.without_peg('pin')),
                      Lot(THING.moved(1, 0)), Lot(PLAIN)]:
            self.assertFalse(Lot(THING) == other)
            self.assertTrue(Lot(THING) != other)
        # Equal names, but another thing around them.
        self.assertFalse(Lot(PLAIN, ['a']) == Lot(PLAIN.without_piece('d'), ['a']))

    def test_equal_to_nothing_of_another_class(self):
        for value in any_values() + [0, THING, Lot(THING).told(), 'Lot(4 pieces, 3 pegs)']:
            self.assertFalse(Lot(THING) == value)
            self.assertTrue(Lot(THING) != value)

    def test_lists_are_copied_and_new(self):
        names, fast = ['c', 'b', 'a'], ['pin']
        lot = Lot(THING, names, fast=fast)
        self.assertEqual([names, fast], [['c', 'b', 'a'], ['pin']])
        names.append('d')
        fast.clear()
        for returned in (lot.names(), lot.pegs(), lot.compass(), lot.groups(RIGHT), lot.row_at(RIGHT, 0)):
            returned.clear()
            returned.append('x')
        self.assertEqual(lot, Lot(THING, ['a', 'b', 'c'], fast=['pin']))
        self.assertEqual(lot.compass(), compass(THING, ['a', 'b', 'c']))
        self.assertEqual([lot.groups(RIGHT), lot.row_at(RIGHT, 0)], [[('a', 'b'), ('c',)], [('c',), ('a', 'b')]])


class MadeErrorTests(unittest.TestCase):
    def test_no_list_of_names(self):
        for value in [True, 0, 5, '', 'a', 'abc', {}, {'a': 1}, [], (), THING, PIN, Lot(THING)]:
            for fast in (None, [], 5, ['x']):
                self.assertEqual(caught(Lot, THING, value, fast=fast), ('InvalidLot', {'at': -1}))

    def test_a_name_of_no_piece(self):
        for value in WRONG_NAMES + ['pin', None]:
            for fast in (None, [], 5, ['x']):
                self.assertEqual(caught(Lot, THING, [value], fast=fast), ('UnknownName', {'name': value}))
                self.assertEqual(caught(Lot, THING, ('a', 'd', value, 'x'), fast=fast), ('UnknownName', {'name': value}))

    def test_no_list_of_pegs(self):
        for value in [True, False, 0, 5, '', 'pin', {}, {'pin': 1}, THING, PIN, Lot(THING)]:
            self.assertEqual(caught(Lot, THING, fast=value), ('InvalidLot', {'at': -2}))
            self.assertEqual(caught(Lot, THING, ['a'], fast=value), ('InvalidLot', {'at': -2}))

    def test_a_name_of_no_peg(self):
        for value in WRONG_NAMES + ['a', None]:
            self.assertEqual(caught(Lot, THING, fast=[value]), ('UnknownName', {'name': value}))
            # An unknown peg comes ahead of one that ties nothing here, wherever it stands.
            self.assertEqual(caught(Lot, THING, ['a'], fast=['pin', value, 'x']), ('UnknownName', {'name': value}))

    def test_a_peg_that_does_not_tie_two_pieces_of_the_lot(self):
        self.assertEqual(caught(Lot, THING, ['a', 'b'], fast=['pin', 'pin', 'held', 'glue']), ('InvalidLot', {'at': 2}))
        self.assertEqual(caught(Lot, THING, ['a'], fast=('glue',)), ('InvalidLot', {'at': 0}))
        self.assertEqual(caught(Lot, THING, ['c', 'd'], fast=['pin']), ('InvalidLot', {'at': 0}))


class LeaningTests(unittest.TestCase):
    def test_leans(self):
        lot = Lot(THING, fast=['pin'])
        self.assertIs(lot.leans('a', 'c', RIGHT), True)
        self.assertIs(lot.leans('c', 'a', RIGHT), False)
        self.assertIs(lot.leans('c', 'a', LEFT), True)
        self.assertIs(lot.leans('a', 'b', UP), True)
        self.assertIs(lot.leans('b', 'a', UP), True)
        self.assertIs(lot.leans('b', 'c', UP), False)
        self.assertIs(lot.leans(direction=UP, other='d', one='a'), False)
        for name in 'abcd':
            for direction in (RIGHT, UP, LEFT, DOWN):
                self.assertIs(lot.leans(name, name, direction), False)

    def test_all_pairs_by_chance(self):
        for lot in drawn_lots(51, 40):
            for direction in some_directions(lot, 4):
                pairs = leaning_pairs(lot, direction)
                for one, other in itertools.product(lot.names(), repeat=2):
                    self.assertIs(lot.leans(one, other, direction), (one, other) in pairs)

    def test_errors(self):
        lot = Lot(THING, ['a', 'b', 'c'])
        for value in WRONG_NAMES + ['d', 'pin']:
            self.assertEqual(caught(lot.leans, value, 'x', None), ('UnknownName', {'name': value}))
            self.assertEqual(caught(lot.leans, 'a', value, None), ('UnknownName', {'name': value}))
        for value in WRONG_DIRECTIONS:
            self.assertEqual(caught(lot.leans, 'a', 'b', value), ('InvalidDirection', {'value': value}))
            self.assertEqual(caught(lot.leans, 'a', 'a', value), ('InvalidDirection', {'value': value}))


class LeavingTests(unittest.TestCase):
    def test_least(self):
        lot = Lot(PLAIN)
        self.assertEqual([lot.least(RIGHT, name) for name in 'abcd'], [('a', 'b', 'c', 'd'), ('b', 'c', 'd'), ('c', 'd'), ('d',)])
        self.assertEqual([lot.least(UP, name) for name in 'abcd'], [('a',), ('b',), ('c',), ('d',)])
        self.assertEqual(Lot(THING, fast=['glue']).least(RIGHT, 'd'), ('a', 'b', 'c', 'd'))
        self.assertEqual(Lot(THING, fast=['glue']).least(name='b', direction=UP), ('b',))
        self.assertEqual(Lot(PLAIN, ['d', 'a']).least(RIGHT, 'a'), ('a', 'd'))

    def test_can_leave(self):
        lot = Lot(PLAIN)
        self.assertIs(lot.can_leave(RIGHT, ['d', 'c', 'd']), True)
        self.assertIs(lot.can_leave(RIGHT, ('a', 'c')), False)
        self.assertIs(lot.can_leave(names=[], direction=RIGHT), True)
        self.assertIs(lot.can_leave(RIGHT, ()), True)
        self.assertIs(lot.can_leave(RIGHT, ['a', 'b', 'c', 'd']), True)
        self.assertIs(Lot(THING, fast=['pin']).can_leave(UP, ['a']), False)
        self.assertIs(Lot(THING, fast=['pin']).can_leave(UP, ['a', 'b']), True)

    def test_leaving(self):
        self.assertEqual(list(Lot(PLAIN).leaving(RIGHT)), [('d',), ('c', 'd'), ('b', 'c', 'd')])
        self.assertEqual(list(Lot(PLAIN).leaving(direction=UP)), all_sets('abcd')[1:-1])
        self.assertEqual(list(Lot(THING, fast=['held', 'pin']).leaving(UP)), [('d',), ('a', 'b', 'c')])
        self.assertEqual(list(Lot(PLAIN, ['a']).leaving(UP)), [])
        self.assertEqual(list(Lot(Thing([FRAME, INNER])).leaving(UP)), [])

    def test_against_all_sets(self):
        for lot in drawn_lots(52, 50):
            for direction in some_directions(lot, 4):
                sets = sets_that_leave(lot, direction)
                self.assertEqual(list(lot.leaving(direction)), [chosen for chosen in sets if 0 < len(chosen) < len(lot)])
                for chosen in all_sets(lot.names()):
                    self.assertIs(lot.can_leave(direction, list(chosen[::-1])), chosen in sets)
                for name in lot.names():
                    self.assertEqual(lot.least(direction, name), least_set(sets, name))

    def test_many_pieces(self):
        lot = Lot(Thing([Piece('abcdefghi'[at], [box(3 * at, 0)]) for at in range(9)]))
        self.assertEqual(len(list(lot.leaving(UP))), 510)
        self.assertEqual([len(chosen) for chosen in lot.leaving(LEFT)], list(range(1, 9)))

    def test_errors(self):
        lot = Lot(THING, ['a', 'b', 'c'])
        for value in WRONG_DIRECTIONS:
            self.assertEqual(caught(lot.least, value, 'x'), ('InvalidDirection', {'value': value}))
            self.assertEqual(caught(lot.can_leave, value, ['x']), ('InvalidDirection', {'value': value}))
            self.assertEqual(caught(list, lot.leaving(value)), ('InvalidDirection', {'value': value}))
        for value in WRONG_NAMES + ['d', 'pin']:
            self.assertEqual(caught(lot.least, UP, value), ('UnknownName', {'name': value}))
            self.assertEqual(caught(lot.can_leave, UP, ['a', value, 'x']), ('UnknownName', {'name': value}))
            self.assertEqual(caught(lot.can_leave, UP, (value, None)), ('UnknownName', {'name': value}))

    def test_leaving_raises_when_its_first_item_is_requested(self):
        sets = Lot(THING).leaving(None)
        self.assertEqual(caught(next, sets), ('InvalidDirection', {'value': None}))


class RowTests(unittest.TestCase):
    def test_groups(self):
        self.assertEqual(Lot(PLAIN).groups(RIGHT), [('a',), ('b',), ('c',), ('d',)])
        self.assertEqual(Lot(THING, fast=['held']).groups(UP), [('a',), ('b', 'c'), ('d',)])
        self.assertEqual(Lot(THING, fast=['glue']).groups(direction=UP), [('a', 'd'), ('b',), ('c',)])
        self.assertEqual(Lot(THING, fast=['glue']).groups(RIGHT), [('a', 'b', 'c', 'd')])
        self.assertEqual(Lot(Thing(HOOKS)).groups(RIGHT), [('a', 'b'), ('c', 'd')])
        self.assertEqual(Lot(PLAIN, ['c']).groups(RIGHT), [('c',)])

    def test_rows(self):
        lot = Lot(PLAIN)
        self.assertEqual([lot.row_count(RIGHT), lot.row_count(direction=UP)], [1, 24])
        self.assertEqual(lot.row_at(RIGHT, 0), [('d',), ('c',), ('b',), ('a',)])
        self.assertEqual(lot.row_at(UP, 0), [('a',), ('b',), ('c',), ('d',)])
        self.assertEqual(lot.row_at(index=23, direction=UP), [('d',), ('c',), ('b',), ('a',)])
        self.assertEqual(lot.row_index(UP, [('a',), ('b',), ('d',), ('c',)]), 1)
        self.assertEqual(lot.row_index(row=(('b',), ('a',), ('c',), ('d',)), direction=UP), 6)
        self.assertEqual(Lot(PLAIN, ['c']).row_at(RIGHT, 0), [('c',)])

    def test_against_all_rows(self):
        longest = 0
        stairs = Thing([Piece('abcde'[at], [box(3 * at, at * at % 5)]) for at in range(5)], [Peg('p', 'b', 'd')])
        for lot in drawn_lots(53, 40, 5) + [Lot(PLAIN), Lot(THING, fast=['held']), Lot(stairs), Lot(stairs, fast=[])]:
            for direction in some_directions(lot, 3):
                rows = all_rows(lot, direction)
                longest = max(longest, len(rows))
                self.assertEqual(lot.groups(direction), sorted(rows[0]))
                self.assertEqual(lot.groups(direction), all_groups(lot, sets_that_leave(lot, direction)))
                self.assertEqual(lot.row_count(direction), len(rows))
                for index in range(len(rows)):
                    self.assertEqual(lot.row_at(direction, index), rows[index])
                    self.assertEqual(lot.row_index(direction, rows[index]), index)
        self.assertGreater(longest, 20)

    def test_turned_by_half_the_rows_are_turned_about(self):
        for lot in drawn_lots(54, 30):
            for u, v in some_directions(lot, 4):
                self.assertEqual(lot.groups((-u, -v)), lot.groups((u, v)))
                self.assertEqual(all_rows(lot, (-u, -v)), sorted(row[::-1] for row in all_rows(lot, (u, v))))
                self.assertEqual(lot.row_count((-u, -v)), lot.row_count((u, v)))
                row = lot.row_at((u, v), 0)
                self.assertIsInstance(lot.row_index((-u, -v), row[::-1]), int)

    def test_many_rows(self):
        lot = Lot(Thing([Piece('abcdefghi'[at], [box(3 * at, 0)]) for at in range(9)]))
        self.assertEqual(lot.row_count(UP), 362880)
        self.assertEqual(lot.row_at(UP, 362879), [(name,) for name in 'ihgfedcba'])
        order = next(itertools.islice(itertools.permutations('abcdefghi'), 100000, None))
        self.assertEqual(lot.row_at(UP, 100000), [(name,) for name in order])
        self.assertEqual(lot.row_index(UP, [(name,) for name in order]), 100000)

    def test_wrong_indexes(self):
        lot = Lot(PLAIN)
        for direction, count in ((RIGHT, 1), (UP, 24)):
            for value in any_values() + [-1, count, count + 1, 999999999, -999999999, '0', [0], THING]:
                self.assertEqual(caught(lot.row_at, direction, value), ('InvalidNumber', {'value': value}))
            self.assertIsNone(caught(lot.row_at, direction, count - 1))

    def test_wrong_rows(self):
        lot = Lot(THING, fast=['held'])
        a, bc, d = ('a',), ('b', 'c'), ('d',)
        self.assertEqual(lot.row_index(RIGHT, [d, bc, a]), 0)
        for value in any_values() + [0, 'abc', {}, [d, bc], [d, bc, a, a], (), THING, {1: d, 2: bc, 3: a}]:
            if not isinstance(value, (list, tuple)) or len(value) != 3:
                self.assertEqual(caught(lot.row_index, RIGHT, value), ('InvalidRow', {'at': -1}))
        for row, at in [([a, bc, d], 0), ([d, a, bc], 1), ([d, d, a], 1), ([d, bc, d], 2), ([d, bc, bc], 2), ([bc, d, a], 0),
                        ([d, ('b',), a], 1), ([d, ('c', 'b'), a], 1), ([d, ['b', 'c'], a], 1), (['d', bc, a], 0),
                        ([d, 'bc', a], 1), ([d, ('b', 'c', 'd'), a], 1), ((None, None, None), 0), ([d, bc, ('x',)], 2),
                        ([d, bc, ('a', 'a')], 2), ([d, bc, ()], 2), ([d, bc, True], 2)]:
            self.assertEqual(caught(lot.row_index, RIGHT, row), ('InvalidRow', {'at': at}), row)
        for value in WRONG_NAMES:
            self.assertEqual(caught(lot.row_index, UP, [a, value, d]), ('InvalidRow', {'at': 1}))

    def test_rows_with_changes_by_chance(self):
        chance = random.Random(55)
        for lot in drawn_lots(56, 30, 4):
            for direction in some_directions(lot, 2):
                rows = all_rows(lot, direction)
                groups = lot.groups(direction)
                for _ in range(10):
                    row = [chance.choice(groups) for _ in groups]
                    # The first item with which it is no beginning of a row.
                    wrong = [at for at in range(len(row)) if not any(other[:at + 1] == row[:at + 1] for other in rows)]
                    found = caught(lot.row_index, direction, row)
                    self.assertEqual(found, ('InvalidRow', {'at': wrong[0]}) if wrong else None)

    def test_wrong_directions(self):
        lot = Lot(PLAIN)
        for value in WRONG_DIRECTIONS:
            expected = ('InvalidDirection', {'value': value})
            for call in (lot.groups, lot.row_count):
                self.assertEqual(caught(call, value), expected)
            for call in (lot.row_at, lot.row_index):
                self.assertEqual(caught(call, value, -1), expected)


class PartedTests(unittest.TestCase):
    def test_values(self):
        lot = Lot(THING, fast=['held', 'pin'])
        going, staying = lot.parted(RIGHT, ['d', 'd'])
        self.assertEqual([going.told(), staying.told()], [(('d',), ()), (('a', 'b', 'c'), ('held', 'pin'))])
        going, staying = lot.parted(names=('c', 'a', 'b'), direction=UP)
        self.assertEqual([going.told(), staying.told()], [(('a', 'b', 'c'), ('held', 'pin')), (('d',), ())])
        self.assertIsInstance(lot.parted(RIGHT, ['d']), tuple)
        self.assertEqual(going.thing, THING)

    def test_pegs_that_are_not_fast_stay_so(self):
        going, staying = Lot(THING, fast=['glue']).parted(UP, ['b', 'c'])
        self.assertEqual([going.told(), staying.told()], [(('b', 'c'), ()), (('a', 'd'), ('glue',))])

    def test_against_all_sets(self):
        for lot in drawn_lots(57, 40):
            for direction in some_directions(lot, 3):
                sets = sets_that_leave(lot, direction)
                for chosen in all_sets(lot.names()):
                    self.check(lot, direction, chosen, sets)

    def check(self, lot, direction, chosen, sets):
        found = caught(lot.parted, direction, list(chosen))
        if len(chosen) in (0, len(lot)):
            self.assertEqual(found, ('NoParting', {}))
        elif chosen in sets:
            rest = [name for name in lot.names() if name not in chosen]
            pegs = [lot.thing.peg_called(peg) for peg in lot.pegs()]
            pairs = [Lot(lot.thing, names, fast=[peg.name for peg in pegs if peg.one in names and peg.other in names])
                     for names in (list(chosen), rest)]
            self.assertEqual(list(lot.parted(direction, chosen)), pairs)
        else:
            bare = Lot(lot.thing, lot.names(), fast=[])
            barred = sorted((one, other) for one, other in leaning_pairs(bare, direction) if one in chosen and other not in chosen)
            if barred:
                self.assertEqual(found, ('Barred', {'one': barred[0][0], 'other': barred[0][1]}))
            else:
                tied = [peg for peg in lot.pegs() if len({lot.thing.peg_called(peg).one in chosen,
                                                          lot.thing.peg_called(peg).other in chosen}) == 2]
                self.assertEqual(found, ('Pegged', {'peg': tied[0]}))

    def test_errors_in_their_order(self):
        lot = Lot(THING, fast=['pin', 'held'])
        self.assertEqual(caught(lot.parted, (0, 0), ['x']), ('InvalidDirection', {'value': (0, 0)}))
        self.assertEqual(caught(lot.parted, RIGHT, ['a', 'x', None]), ('UnknownName', {'name': 'x'}))
        self.assertEqual(caught(lot.parted, RIGHT, []), ('NoParting', {}))
        self.assertEqual(caught(lot.parted, RIGHT, ['d', 'c', 'b', 'a', 'a']), ('NoParting', {}))
        self.assertEqual(caught(lot.parted, RIGHT, ['c', 'a']), ('Barred', {'one': 'a', 'other': 'b'}))
        self.assertEqual(caught(lot.parted, RIGHT, ['c', 'b']), ('Barred', {'one': 'b', 'other': 'd'}))
        self.assertEqual(caught(lot.parted, UP, ['b']), ('Pegged', {'peg': 'held'}))
        self.assertEqual(caught(lot.parted, UP, ['d', 'a']), ('Pegged', {'peg': 'pin'}))
        self.assertEqual(caught(Lot(PLAIN, ['a']).parted, UP, ['a']), ('NoParting', {}))
        for value in WRONG_DIRECTIONS:
            self.assertEqual(caught(lot.parted, value, ['x']), ('InvalidDirection', {'value': value}))
        for value in WRONG_NAMES:
            self.assertEqual(caught(lot.parted, UP, ['a', value, 'x']), ('UnknownName', {'name': value}))
        self.assertEqual(caught(Lot(THING, ['a', 'b']).parted, UP, ['c']), ('UnknownName', {'name': 'c'}))

    def test_the_lot_stays_as_it_was(self):
        lot = Lot(THING, fast=['pin'])
        lot.parted(UP, ['d'])
        lot.drawn('pin')
        caught(lot.parted, UP, ['a'])
        self.assertEqual(lot, Lot(THING, fast=['pin']))


class DrawTests(unittest.TestCase):
    def test_drawable(self):
        lot = Lot(THING)
        self.assertEqual([lot.drawable('glue'), lot.drawable('held'), lot.drawable(peg='pin')], [False, False, True])
        self.assertIs(Lot(THING, ['b', 'c']).drawable('held'), True)
        self.assertIs(Lot(THING, ['a', 'd']).drawable('glue'), False)

    def test_drawn(self):
        self.assertEqual(Lot(THING).drawn('pin'), Lot(THING, fast=['glue', 'held']))
        self.assertEqual(Lot(THING, ['b', 'c']).drawn(peg='held').told(), (('b', 'c'), ()))

    def test_ways_within_and_between_pieces(self):
        two = [Piece('a', [box(0, 0), box(2, 0)]), Piece('b', [box(0, 2, 4, 2)])]
        for way, free in [(((1, 1), DOWN), False), (((2, 1), DOWN), True), (((1, 2), RIGHT), True), (((1, 2), UP), False),
                          (((0, 4), UP), True), (((0, 1), LEFT), True), (((4, 1), (-999, 1)), False)]:
            self.assertIs(Lot(Thing(two, [Peg('pin', 'a', 'b', [way])])).drawable('pin'), free, way)

    def test_against_all_pieces_and_ways(self):
        seen = set()
        for lot in drawn_lots(58, 80, 4, 4):
            free = free_pegs(lot)
            for peg in lot.pegs():
                self.assertIs(lot.drawable(peg), peg in free)
                seen.add(peg in free)
                if peg in free:
                    others = [other for other in lot.pegs() if other != peg]
                    self.assertEqual(lot.drawn(peg), Lot(lot.thing, lot.names(), fast=others))
                else:
                    self.assertEqual(caught(lot.drawn, peg), ('Held', {'peg': peg}))
        self.assertEqual(seen, {True, False})

    def test_errors(self):
        lot = Lot(THING, ['a', 'b', 'c'], fast=['held'])
        for value in WRONG_NAMES + ['a', None]:
            for call in (lot.drawable, lot.drawn):
                self.assertEqual(caught(call, value), ('UnknownName', {'name': value}))
        for call in (lot.drawable, lot.drawn):
            self.assertEqual(caught(call, 'pin'), ('NotFast', {'peg': 'pin'}))
            self.assertEqual(caught(call, 'glue'), ('NotFast', {'peg': 'glue'}))
        self.assertEqual(caught(Lot(THING).drawn, 'glue'), ('Held', {'peg': 'glue'}))
        self.assertEqual(caught(Lot(THING).drawn, 'held'), ('Held', {'peg': 'held'}))


class StuckTests(unittest.TestCase):
    def test_values(self):
        self.assertIs(Lot(Thing([FRAME, INNER])).is_stuck(), True)
        self.assertIs(Lot(Thing([GROOVE, TONGUE])).is_stuck(), False)
        self.assertIs(Lot(PLAIN, ['b']).is_stuck(), True)
        self.assertIs(Lot(THING, ['a', 'd']).is_stuck(), True)
        self.assertIs(Lot(THING, ['a', 'd'], fast=[]).is_stuck(), False)
        self.assertIs(Lot(THING, ['a', 'b']).is_stuck(), False)
        glue = [Peg('p', 'a', 'b'), Peg('q', 'c', 'b'), Peg('r', 'c', 'd')]
        self.assertIs(Lot(Thing(ROW, glue)).is_stuck(), True)
        self.assertIs(Lot(Thing(ROW, glue[:2])).is_stuck(), False)
        self.assertIs(Lot(Thing(ROW, glue), fast=['p', 'r']).is_stuck(), False)

    def test_a_peg_that_can_be_drawn_between_pieces_that_cannot_be_parted(self):
        for way, stuck in [(((0, 0), DOWN), False), (((4, 4), DOWN), True)]:
            self.assertIs(Lot(Thing([FRAME, INNER], [Peg('pin', 'f', 'i', [way])])).is_stuck(), stuck)
            self.assertIs(Lot(Thing([FRAME, INNER], [Peg('pin', 'f', 'i', [way])]), fast=[]).is_stuck(), True)

    def test_against_all_sets_in_all_directions(self):
        seen = set()
        for lot in drawn_lots(59, 80, 3, 3):
            stuck = lot_is_stuck(lot)
            self.assertIs(lot.is_stuck(), stuck)
            seen.add((stuck, min(2, len(lot)), bool(lot.pegs())))
        self.assertLessEqual({(True, 1, False), (True, 2, True), (False, 2, False), (False, 2, True)}, seen)


class TwoLotsTests(unittest.TestCase):
    def test_or(self):
        joined = Lot(THING, ['a', 'b'], fast=['pin']) | Lot(THING, ['b', 'c'], fast=[])
        self.assertEqual(joined.told(), (('a', 'b', 'c'), ('pin',)))
        self.assertIsInstance(joined, Lot)
        # Only the pegs of both are fast, not each one that ties two pieces of both together.
        self.assertEqual((Lot(THING, ['a']) | Lot(THING, ['b', 'c'])).told(), (('a', 'b', 'c'), ('held',)))
        equal = Thing(ROW[::-1], [GLUE, HELD, PIN])
        self.assertEqual(Lot(THING, ['a']) | Lot(equal, ['d']), Lot(THING, ['a', 'd'], fast=[]))

    def test_within(self):
        lot = Lot(THING, ['a', 'b'], fast=['pin'])
        self.assertIs(lot.within(Lot(THING)), True)
        self.assertIs(lot.within(lot), True)
        self.assertIs(Lot(THING).within(lot), False)
        self.assertIs(lot.within(Lot(THING, fast=['held'])), False)
        self.assertIs(lot.within(other=Lot(THING, ['a', 'b', 'c'], fast=['pin'])), True)
        self.assertIs(Lot(THING, ['a', 'd'], fast=[]).within(Lot(THING, ['a', 'b', 'c'])), False)
        self.assertIs(Lot(THING, ['a'], fast=[]).within(Lot(THING, ['a', 'd'], fast=[])), True)

    def test_by_chance(self):
        chance = random.Random(60)
        for _ in range(40):
            thing = random_thing(chance, 5, 4)
            one, other = random_lot(chance, thing), random_lot(chance, thing)
            joined = one | other
            self.assertEqual(joined.names(), sorted({*one.names(), *other.names()}))
            self.assertEqual(joined.pegs(), sorted({*one.pegs(), *other.pegs()}))
            self.assertEqual(joined, other | one)
            self.assertTrue(one.within(joined) and other.within(joined))
            within = set(one.names()) <= set(other.names()) and set(one.pegs()) <= set(other.pegs())
            self.assertIs(one.within(other), within)
            self.assertIs((one | other) == other, within)

    def test_other_things(self):
        lot = Lot(THING, ['a'])
        for value in any_values() + [0, THING, PIN, Lot(PLAIN, ['a']), Lot(THING.moved(0, 1), ['a']), Arc.whole(),
                                     Lot(THING.without_piece('d'), ['a']), ['a'], lot.told()]:
            self.assertEqual(caught(lambda: lot | value), ('OtherThing', {}))
            self.assertEqual(caught(lot.within, value), ('OtherThing', {}))


if __name__ == '__main__':
    unittest.main()
