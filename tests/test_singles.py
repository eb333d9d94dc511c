import itertools
import random
import unittest

from reference_singles import Slow, all_held
from samples import FRAME, GLUE, GROOVE, HOOKS, INNER, PEGGED_ROW, PIN, ROW, TONGUE, UP
from samples import any_values, box, caught, random_thing
from stucklots.compass import compass, web
from stucklots.lots import Lot
from stucklots.pegs import Peg
from stucklots.pieces import Piece
from stucklots.singles import doors, emptied, full_index, full_row, is_row, kernel, row_count, surely_before
from stucklots.states import State
from stucklots.things import Thing

PLAIN = Thing(ROW)
HOOKED = Thing(HOOKS)
CUP = Thing([GROOVE, TONGUE])
SHUT = Thing([FRAME, INNER])
# A lid over the groove: it leaves ahead of the tongue, but the groove can leave ahead of both.
LIDDED = Thing([GROOVE, TONGUE, Piece('lid', [((0, 6), (6, 6), (6, 8), (0, 8))])])
# The frame keeps its inner piece, and glue keeps x with it; y is free, and while it stays it bars the peg late.
MIXED = Thing([FRAME, INNER, Piece('x', [box(20, 0)]), Piece('y', [box(20, 2)])],
              [Peg('glue', 'x', 'i'), Peg('late', 'f', 'x', [((21, 2), UP)]), Peg('near', 'x', 'y', [((0, 0), (0, -1))])])
WRONG_NAMES = any_values() + [0, 'e', 'pin', ['a'], ('a',), {'a': 1}, PEGGED_ROW, PIN, Lot(PLAIN), [[[[[[[['a']]]]]]]]]


def drawn(seed, many, most=5, pegs=4):
    chance = random.Random(seed)
    return [(chance, random_thing(chance, most, pegs)) for _ in range(many)]


def some_held(chance, thing, many=4):
    """Some sets of held pieces, nothing among them."""
    sets = all_held(thing)
    return [()] + chance.sample(sets, min(many, len(sets)))


def habit(thing, held):
    """What is done by the habit, by the words of [19]."""
    slow = Slow(thing)
    rest = slow.first()
    done = []
    while slow.moves(rest, held):
        # The moves stand in the order of the habit: pegs first, each by ascending names.
        (what, name), behind = slow.moves(rest, held)[0]
        if what == 'draw':
            done.append(('draw', name))
        else:
            free = [direction for direction in compass(thing, rest[0])
                    if not any(one == name for one, _ in web(thing, direction, rest[0]))]
            done.append(('leave', free[0], name))
        rest = behind
    return done, rest


class KernelTests(unittest.TestCase):
    def test_values(self):
        self.assertEqual(kernel(PLAIN), ([], []))
        self.assertEqual(kernel(thing=HOOKED), (['a', 'b', 'c', 'd'], []))
        self.assertEqual(kernel(SHUT), (['f', 'i'], []))
        self.assertEqual(kernel(PEGGED_ROW), (['a', 'b', 'c', 'd'], ['glue', 'held']))
        self.assertEqual(kernel(PEGGED_ROW.without_peg('glue')), ([], []))
        self.assertEqual(kernel(PEGGED_ROW.without_peg('held')), (['a', 'd'], ['glue']))
        self.assertEqual(kernel(MIXED), (['f', 'i', 'x'], ['glue']))
        self.assertEqual(kernel(Thing([TONGUE])), ([], []))
        self.assertIsInstance(kernel(PLAIN), tuple)
        self.assertEqual([type(found) for found in kernel(MIXED)], [list, list])

    def test_held(self):
        self.assertEqual(kernel(PLAIN, held=['c']), (['c'], []))
        self.assertEqual(kernel(PLAIN, held=('c', 'a', 'c')), (['a', 'c'], []))
        self.assertEqual(kernel(CUP, held=['g']), (['g'], []))
        self.assertEqual(kernel(LIDDED, held=['g', 'lid']), (['g', 'lid', 't'], []))
        self.assertEqual(kernel(PEGGED_ROW.without_peg('held'), held=['c']), (['a', 'c', 'd'], ['glue']))
        self.assertEqual(kernel(MIXED, held=['y']), (['f', 'i', 'x', 'y'], ['glue', 'late']))

    def test_held_is_keyword_only_and_not_changed(self):
        with self.assertRaises(TypeError):
            kernel(PLAIN, ['a'])
        held = ['c', 'a', 'c']
        for call in (kernel, emptied, row_count):
            call(PLAIN, held=held)
        is_row(PLAIN, ['b'], held=held)
        full_row(PLAIN, 0, held=held)
        full_index(PLAIN, ['b', 'd'], held=held)
        self.assertEqual(held, ['c', 'a', 'c'])

    def test_the_same_kernel_in_whatever_order(self):
        sizes = set()
        for chance, thing in drawn(201, 40, 4, 3) + drawn(202, 12, 5, 4):
            slow = Slow(thing)
            for held in some_held(chance, thing):
                names, pegs = kernel(thing, held=list(held))
                self.assertEqual(slow.all_ends(held), {(tuple(names), tuple(pegs))})
                sizes.add((len(thing) - len(names), len(pegs) > 0))
        self.assertLessEqual({(many, fast) for many in range(4) for fast in (False, True)}, sizes)

    def test_returned_lists_are_new(self):
        for found in kernel(MIXED):
            found.clear()
        self.assertEqual(kernel(MIXED), (['f', 'i', 'x'], ['glue']))


class EmptiedTests(unittest.TestCase):
    def test_values(self):
        self.assertEqual(emptied(thing=CUP), [('leave', (0, -1), 'g'), ('leave', (1, 0), 't')])
        self.assertEqual(emptied(CUP, held=['g']), [('leave', (0, 1), 't')])
        self.assertEqual(emptied(CUP, held=['t', 'g']), [])
        self.assertEqual(emptied(SHUT), [])
        self.assertEqual(emptied(HOOKED), [])
        self.assertEqual(emptied(Thing([TONGUE])), [('leave', (1, 0), 't')])
        self.assertEqual(emptied(PEGGED_ROW), [('draw', 'pin')])
        self.assertEqual(emptied(MIXED), [('draw', 'near'), ('leave', (1, 0), 'y'), ('draw', 'late')])

    def test_pegs_are_drawn_first_by_names_whenever_they_can_be(self):
        free = [((0, 50), UP)]
        pegs = [Peg('q', 'a', 'b', free), Peg('p', 'c', 'd', free), Peg('late', 'a', 'c', [((3, 1), (1, 0))])]
        done = emptied(Thing(ROW, pegs), held=['a'])
        # The peg late is barred from the right by b, c and d, until the last one of them has gone.
        self.assertEqual([step for step in done if step[0] == 'draw'], [('draw', 'p'), ('draw', 'q')])
        self.assertEqual(done[:2], [('draw', 'p'), ('draw', 'q')])
        self.assertEqual(kernel(Thing(ROW, pegs), held=['a']), (['a', 'c'], ['late']))
        self.assertEqual([step[0] for step in done[2:]], ['leave', 'leave'])

    def test_a_peg_that_is_drawn_between_two_pieces_that_leave(self):
        pegs = [Peg('late', 'a', 'b', [((5, 1), (1, 0))])]
        self.assertEqual([step[0::2] if step[0] == 'leave' else step for step in emptied(Thing(ROW, pegs))],
                         [('leave', 'c'), ('leave', 'd'), ('draw', 'late'), ('leave', 'a'), ('leave', 'b')])

    def test_the_habit_by_the_words(self):
        kinds = set()
        for chance, thing in drawn(203, 50, 6, 4):
            for held in some_held(chance, thing, 3):
                done, rest = habit(thing, held)
                self.assertEqual(emptied(thing, held=held), done)
                self.assertEqual(kernel(thing, held=held), (list(rest[0]), list(rest[1])))
                kinds.update((step[0], at > 0) for at, step in enumerate(done))
        self.assertEqual(kinds, {(what, later) for what in ('draw', 'leave') for later in (False, True)})

    def test_held_several_times(self):
        self.assertEqual(emptied(PLAIN, held=['b', 'b', 'd']), emptied(PLAIN, held=('d', 'b')))

    def test_returned_lists_are_new(self):
        found = emptied(CUP)
        found.clear()
        self.assertEqual(len(emptied(CUP)), 2)


class RowTests(unittest.TestCase):
    def test_values(self):
        self.assertEqual([row_count(PLAIN), row_count(thing=CUP), row_count(SHUT), row_count(LIDDED)], [24, 2, 1, 4])
        self.assertEqual([full_row(SHUT, 0), full_row(CUP, 0), full_row(index=1, thing=CUP)], [[], ['g', 't'], ['t', 'g']])
        self.assertEqual([full_row(LIDDED, at) for at in range(4)],
                         [['g', 'lid', 't'], ['g', 't', 'lid'], ['lid', 'g', 't'], ['lid', 't', 'g']])
        self.assertEqual([row_count(LIDDED, held=['g']), full_row(LIDDED, 0, held=['g'])], [1, ['lid', 't']])
        self.assertEqual(full_index(LIDDED, ('lid', 't'), held=('g', 'g')), 0)
        self.assertEqual(full_index(names=['lid', 'g', 't'], thing=LIDDED), 2)
        self.assertEqual([full_index(SHUT, []), full_index(SHUT, ())], [0, 0])

    def test_is_row(self):
        self.assertIs(is_row(LIDDED, []), True)
        self.assertIs(is_row(LIDDED, ()), True)
        self.assertIs(is_row(names=['lid', 't'], thing=LIDDED), True)
        self.assertIs(is_row(LIDDED, ('g', 'lid', 't')), True)
        self.assertIs(is_row(LIDDED, ['t']), False)
        self.assertIs(is_row(LIDDED, ['lid', 'lid']), False)
        self.assertIs(is_row(LIDDED, ['lid', 'g', 't', 't']), False)
        self.assertIs(is_row(LIDDED, ['g'], held=['g']), False)
        self.assertIs(is_row(LIDDED, [], held=['g', 't', 'lid']), True)

    def test_is_row_of_any_value(self):
        for value in WRONG_NAMES + ['a', {'g': 1}, {}, 5, CUP]:
            if value not in ([], ()):
                self.assertIs(is_row(LIDDED, value), False)
            self.assertIs(is_row(LIDDED, [value]), False)
            self.assertIs(is_row(LIDDED, ('lid', value)), False)
        self.assertIs(is_row(LIDDED, 'lid'), False)

    def test_against_all_rows(self):
        longest = 0
        for chance, thing in drawn(204, 40, 5, 3):
            slow = Slow(thing)
            for held in some_held(chance, thing, 2):
                rows = slow.full_rows(held)
                longest = max(longest, len(rows))
                self.assertEqual(row_count(thing, held=held), len(rows))
                for index, row in enumerate(rows):
                    self.assertEqual(full_row(thing, index, held=held), row)
                    self.assertEqual(full_index(thing, row, held=held), index)
                    self.assertEqual(full_index(thing, tuple(row), held=held), index)
        self.assertGreater(longest, 20)

    def test_is_row_against_all_rows(self):
        for chance, thing in drawn(205, 25, 4, 3):
            for held in some_held(chance, thing, 2):
                rows = Slow(thing).all_rows(held)
                for many in range(len(thing) + 1):
                    for names in itertools.product(thing.names(), repeat=many):
                        if many < 4 or len(set(names)) == many:
                            self.assertIs(is_row(thing, list(names), held=held), names in rows)

    def test_many_rows(self):
        thing = Thing([Piece('abcdefghi'[at], [box(3 * at, 0)]) for at in range(9)])
        self.assertEqual(row_count(thing), 362880)
        self.assertEqual(full_row(thing, 362879), list('ihgfedcba'))
        order = list(next(itertools.islice(itertools.permutations('abcdefghi'), 200000, None)))
        self.assertEqual(full_row(thing, 200000), order)
        self.assertEqual(full_index(thing, order), 200000)

    def test_wrong_indexes(self):
        for thing, held, count in ((PLAIN, (), 24), (SHUT, (), 1), (LIDDED, ['g'], 1), (CUP, (), 2)):
            for value in any_values() + [-1, count, count + 1, -count, 999999999, -999999999, [0], '0', (0,), thing]:
                self.assertEqual(caught(full_row, thing, value, held=held), ('InvalidNumber', {'value': value}))
            self.assertIsNone(caught(full_row, thing, count - 1, held=held))

    def test_values_that_are_no_full_row(self):
        for value in [None, True, 0, '', 'lid', 'abc', {}, {'lid': 1, 'g': 1, 't': 1}, LIDDED, [], (), ['lid'], ['lid', 'g'],
                      ['lid', 'g', 't', 't'], [None] * 4]:
            self.assertEqual(caught(full_index, LIDDED, value), ('InvalidRow', {'at': -1}))
        for value in [['t'], [None], ['f', 'i'], None, 'fi', '', 0, {}]:
            self.assertEqual(caught(full_index, SHUT, value), ('InvalidRow', {'at': -1}))
        self.assertEqual(caught(full_index, LIDDED, ['lid', 't', 'g'], held=['g']), ('InvalidRow', {'at': -1}))

    def test_the_first_item_with_which_it_is_no_beginning_of_a_row(self):
        for value in WRONG_NAMES + ['x']:
            for at in range(3):
                row = ['lid', 'g', 't']
                row[at] = value
                self.assertEqual(caught(full_index, LIDDED, row), ('InvalidRow', {'at': at}))
                self.assertEqual(caught(full_index, LIDDED, tuple(row)), ('InvalidRow', {'at': at}))
        for row, at in [(['t', 'lid', 'g'], 0), (['lid', 'lid', 'g'], 1), (['g', 't', 'g'], 2), (['t', None, 'x'], 0)]:
            self.assertEqual(caught(full_index, LIDDED, row), ('InvalidRow', {'at': at}))
        self.assertEqual(caught(full_index, LIDDED, ['lid', 'g'], held=['g']), ('InvalidRow', {'at': 1}))
        self.assertEqual(caught(full_index, MIXED, ['x']), ('InvalidRow', {'at': 0}))
        self.assertIsNone(caught(full_index, MIXED, ['y']))

    def test_all_orders_of_the_right_pieces(self):
        for chance, thing in drawn(206, 25, 4, 3):
            rows = Slow(thing).all_rows()
            for row in itertools.permutations(Slow(thing).full_rows()[0]):
                wrong = [at for at in range(len(row)) if row[:at + 1] not in rows]
                expected = ('InvalidRow', {'at': wrong[0]}) if wrong else None
                self.assertEqual(caught(full_index, thing, list(row)), expected)

    def test_returned_lists_are_new(self):
        full_row(CUP, 0).clear()
        self.assertEqual(full_row(CUP, 0), ['g', 't'])


class HeldErrorTests(unittest.TestCase):
    def test_the_first_wrong_name_ahead_of_all_else(self):
        for value in WRONG_NAMES:
            for held in ([value], ('a', value, 'x'), ['a', 'd', 'a', value, None]):
                expected = ('UnknownName', {'name': value})
                self.assertEqual(caught(kernel, PEGGED_ROW, held=held), expected)
                self.assertEqual(caught(emptied, PEGGED_ROW, held=held), expected)
                self.assertEqual(caught(is_row, PEGGED_ROW, None, held=held), expected)
                self.assertEqual(caught(row_count, PEGGED_ROW, held=held), expected)
                self.assertEqual(caught(full_row, PEGGED_ROW, None, held=held), expected)
                self.assertEqual(caught(full_row, PEGGED_ROW, -1, held=held), expected)
                self.assertEqual(caught(full_index, PEGGED_ROW, None, held=held), expected)
                self.assertEqual(caught(full_index, PEGGED_ROW, ['x', 'y'], held=held), expected)


class SurelyBeforeTests(unittest.TestCase):
    def test_values(self):
        # Held, the tongue keeps nobody; the lid keeps the tongue only as long as the groove stays.
        self.assertIs(surely_before(LIDDED, 'lid', 't'), False)
        tower = Thing([FRAME, INNER, TONGUE.moved(18, 18)])
        self.assertIs(surely_before(tower, 'f', 't'), False)
        self.assertIs(surely_before(Thing(ROW, [Peg('p', 'a', 'b', [((5, 1), (1, 0))])]), 'c', 'a'), True)
        self.assertIs(surely_before(other='b', one='d', thing=Thing(ROW, [Peg('p', 'a', 'b', [((5, 1), (1, 0))])])), True)
        self.assertIs(surely_before(Thing(ROW, [Peg('p', 'a', 'b', [((5, 1), (1, 0))])]), 'a', 'c'), False)

    def test_a_piece_before_itself(self):
        for name in 'abcd':
            self.assertIs(surely_before(PLAIN, name, name), False)

    def test_against_all_full_rows(self):
        seen = []
        for chance, thing in drawn(207, 160, 5, 4):
            rows = Slow(thing).full_rows()
            for one, other in itertools.product(thing.names(), repeat=2):
                if other not in rows[0]:
                    self.assertEqual(caught(surely_before, thing, one, other), ('NeverLeaves', {'name': other}))
                    continue
                ahead = all(one in row[:row.index(other)] for row in rows)
                self.assertIs(surely_before(thing, one, other), ahead)
                seen.append(ahead)
        self.assertGreater(seen.count(True), 15)

    def test_errors_in_their_order(self):
        for value in WRONG_NAMES:
            self.assertEqual(caught(surely_before, PEGGED_ROW, value, 'x'), ('UnknownName', {'name': value}))
            self.assertEqual(caught(surely_before, PEGGED_ROW, value, 'a'), ('UnknownName', {'name': value}))
            self.assertEqual(caught(surely_before, PEGGED_ROW, 'a', value), ('UnknownName', {'name': value}))
        for one, other in [('a', 'a'), ('b', 'a'), ('a', 'd')]:
            self.assertEqual(caught(surely_before, PEGGED_ROW, one, other), ('NeverLeaves', {'name': other}))
        self.assertIs(surely_before(PEGGED_ROW.without_peg('held'), 'a', 'b'), False)


class DoorTests(unittest.TestCase):
    def test_values(self):
        self.assertEqual(doors(PLAIN, 'a'), [()])
        self.assertEqual(doors(name='t', thing=LIDDED), [('g',), ('lid',)])
        self.assertEqual(doors(LIDDED, 'g'), [()])
        self.assertEqual(doors(SHUT, 'i'), [('f',)])
        self.assertEqual(doors(Thing([TONGUE]), 't'), [()])
        self.assertEqual([doors(HOOKED, name) for name in 'abcd'], [[('b',), ('c',)], [('a',), ('c',)], [('a',), ('d',)], [('a',), ('c',)]])

    def test_pegs_are_not_drawn(self):
        self.assertEqual([doors(PEGGED_ROW, name) for name in 'abcd'], [[('b', 'd')], [('a', 'c')], [('b',)], [('a',)]])
        self.assertEqual(doors(Thing([GROOVE, TONGUE], [Peg('pin', 'g', 't', [((50, 50), UP)])]), 't'), [('g',)])

    def test_against_all_sets_of_other_pieces(self):
        shapes = set()
        for chance, thing in drawn(208, 60, 6, 2):
            slow = Slow(thing)
            for name in thing.names():
                found = doors(thing, name)
                self.assertEqual(found, slow.doors(name))
                shapes.add(tuple(len(door) for door in found))
        self.assertLessEqual({(0,), (1,), (2,), (1, 1), (1, 2)}, shapes)

    def test_several_doors_shorter_ones_first(self):
        inner = Piece('m', [box(4, 4)])
        walls = [Piece('e', [box(6, 2, 2, 3)]), Piece('f', [box(6, 5, 2, 3)]), Piece('n', [box(2, 6, 4, 2)]),
                 Piece('s', [box(2, 2, 4, 2)]), Piece('w', [box(2, 4, 2, 2)])]
        thing = Thing([inner, *walls])
        self.assertEqual(doors(thing, 'm'), Slow(thing).doors('m'))
        self.assertEqual(doors(thing, 'm'), [('n',), ('s',), ('w',), ('e', 'f')])

    def test_errors(self):
        for value in WRONG_NAMES:
            self.assertEqual(caught(doors, PEGGED_ROW, value), ('UnknownName', {'name': value}))

    def test_returned_lists_are_new(self):
        doors(LIDDED, 't').clear()
        self.assertEqual(doors(LIDDED, 't'), [('g',), ('lid',)])


class EqualCallTests(unittest.TestCase):
    def test_equal_things_give_equal_results(self):
        one = PEGGED_ROW
        other = Thing(ROW[::-1], [GLUE, *PEGGED_ROW.pegs()[1:]][::-1])
        self.assertEqual(one, other)
        self.assertEqual(emptied(one), emptied(other))
        self.assertEqual(kernel(one), kernel(other))
        self.assertEqual([full_row(one, at) for at in range(row_count(one))], [full_row(other, at) for at in range(row_count(one))])
        self.assertEqual(State(one), State(other))


if __name__ == '__main__':
    unittest.main()
