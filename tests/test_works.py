import itertools
import random
import unittest

from samples import DOWN, FRAME, GROOVE, HOOKS, INNER, LEFT, PEGGED_ROW, PIN, RIGHT, ROW, TONGUE, UP
from samples import any_values, box, caught, random_peg, random_thing
from stucklots.clumps import clumps
from stucklots.instructions import run, written
from stucklots.lots import Lot
from stucklots.pegs import Peg
from stucklots.pieces import Piece
from stucklots.singles import kernel
from stucklots.spares import price_of
from stucklots.states import State
from stucklots.things import Thing
from stucklots.turnings import fewest_turnings
from stucklots.works import Works

HOOKED = Thing(HOOKS)
PINNED = Thing(HOOKS, [Peg('pin', 'b', 'a', [((3, 8), UP)])])
CUP = Thing([GROOVE, TONGUE])
SHUT = Thing([FRAME, INNER])
FAR = Piece('far', [box(60, 60)])
GLUE = Peg('glue', 'g', 't')
STEP = ('part', LEFT, ('a', 'b'))
WRONG_JOBS = any_values() + [0, 'z', 'A', ['cup'], ('cup',), {'cup': 1}, CUP, FAR, State(CUP), Works(), [[[[[[[['a']]]]]]]]]
WRONG_NAMES = [None, True, 0, '', 'A', 'a b', 'toolong', 'a\n', '1', ('a',), ['a'], {'a': 1}, CUP, GLUE, Works()]
WORDS = ['put', 'drop', 'move', 'piece', 'out', 'peg', 'loose', 'step']


def works_with(*jobs):
    """A works with jobs, pairs of a name and a thing."""
    works = Works()
    works.do(*[('put', name, thing) for name, thing in jobs])
    return works


def told(works):
    """All that a works tells of its jobs, its history and its journal."""
    return ([(name, works.thing_of(name), works.bench(name)) for name in works.names()], works.history(), works.journal())


def wrong_deeds():
    """Values that are no deeds by their form."""
    rows = [(), ('put',), ('drop',), ('put', 'a'), ('put', 'a', CUP, CUP), ('drop', 'a', 'b'), ('move', 'a'), ('move', 'a', 'b', 'c'),
            ('piece', 'a'), ('piece', 'a', FAR, FAR), ('out', 'a'), ('out', 'a', 'g', 't'), ('peg', 'a'), ('peg', 'a', GLUE, GLUE),
            ('loose', 'a'), ('loose', 'a', 'glue', 'glue'), ('step', 'a'), ('step', 'a', STEP, STEP), ('step', 'a', *STEP),
            ['drop', 'a'], ['put', 'a', CUP], 'drop', 'put', ('Put', 'a', CUP), ('undo',), ('redo',), ('do', ()), ('do', (('drop', 'a'),)),
            ('names',), (None, 'a'), (0, 'a'), (['drop'], 'a'), (('drop',), 'a'), ({'drop': 1}, 'a'), (CUP, 'a', CUP), ('', 'a'),
            (True, 'a', CUP), CUP, FAR, GLUE, Works(), State(CUP)]
    rows += [('put', 'a', value) for value in any_values() + [0, FAR, GLUE, State(CUP), CUP.text(), [CUP], Works()]]
    rows += [('piece', 'a', value) for value in any_values() + [0, CUP, GLUE, 'g', [FAR], FAR.parts()]]
    rows += [('peg', 'a', value) for value in any_values() + [0, CUP, FAR, 'glue', [GLUE], GLUE.ways()]]
    return rows + any_values()


class NewTests(unittest.TestCase):
    def test_a_new_works(self):
        works = Works()
        self.assertEqual([len(works), works.many, works.names(), works.history()], [0, 0, [], (0, 0)])
        self.assertEqual([works.log(), works.journal(), repr(works), bool(works)], [[], [], 'Works(0 jobs)', True])
        self.assertIs(works.busy, False)
        self.assertEqual([Works.MOST, works.MOST], [6, 6])

    def test_jobs(self):
        works = works_with(('cup', CUP), ('a', HOOKED))
        self.assertEqual([len(works), works.many, works.names(), repr(works)], [2, 2, ['a', 'cup'], 'Works(2 jobs)'])
        self.assertEqual([works.thing_of('cup'), works.thing_of(name='a')], [CUP, HOOKED])
        self.assertEqual([works.bench('cup'), works.bench(name='a')], [State(CUP), State(HOOKED)])
        self.assertIsInstance(works.history(), tuple)

    def test_in_and_unknown_jobs(self):
        works = works_with(('cup', CUP))
        self.assertIs('cup' in works, True)
        for value in WRONG_JOBS:
            self.assertIs(value in works, False)
            self.assertIs(value not in works, True)
            for call in (works.thing_of, works.bench):
                self.assertEqual(caught(call, value), ('UnknownName', {'name': value}))

    def test_equal(self):
        one, other = works_with(('cup', CUP), ('a', HOOKED)), works_with(('a', HOOKED))
        self.assertFalse(one == other)
        self.assertTrue(one != other)
        other.do(('put', 'x', Thing([TONGUE, GROOVE])))
        self.assertFalse(one == other)
        other.do(('move', 'x', 'cup'))
        # Neither history nor log nor journal count.
        other.say('names')
        self.assertTrue(one == other)
        self.assertFalse(one != other)
        other.do(('step', 'cup', ('part', UP, ('t',))))
        self.assertFalse(one == other)
        one.do(('step', 'cup', ('part', DOWN, ('g',))))
        self.assertTrue(one == other)
        self.assertTrue(Works() == Works())
        self.assertFalse(works_with(('a', CUP)) == works_with(('a', SHUT)))

    def test_equal_to_nothing_of_another_class(self):
        for value in any_values() + [0, CUP, {}, []]:
            self.assertFalse(Works() == value)
            self.assertTrue(Works() != value)

    def test_returned_lists_are_new(self):
        works = works_with(('cup', CUP), ('a', HOOKED))
        works.say('names')
        works.undo()
        works.redo()
        before = (told(works), works.log())
        for returned in (works.names(), works.log(), works.journal(), works.tried(('drop', 'a')), works.bench('a').lots()):
            returned.clear()
            returned.append(None)
        self.assertEqual((told(works), works.log()), before)


class DeedTests(unittest.TestCase):
    def refused(self, works, deed, code, **values):
        """Holds that a deed is refused with an error, and changes nothing, alone and behind another one."""
        before = told(works)
        self.assertEqual(caught(works.do, deed), (code, values), deed)
        self.assertEqual(caught(works.do, ('put', 'tmp', SHUT), deed, ('drop', 'tmp')), (code, values))
        self.assertEqual(caught(works.tried, deed), (code, values))
        self.assertIs(works.busy, False)
        self.assertEqual(told(works), before)

    def test_put(self):
        works = Works()
        self.assertIsNone(works.do(('put', 'cup', CUP)))
        self.assertEqual([works.names(), works.thing_of('cup'), works.bench('cup')], [['cup'], CUP, State(CUP)])
        for value in WRONG_NAMES:
            self.refused(works, ('put', value, CUP), 'InvalidName', value=value)
        self.refused(works, ('put', 'cup', SHUT), 'DuplicateName', name='cup')

    def test_put_too_many(self):
        works = works_with(*[(name, CUP) for name in 'abcdef'])
        self.assertEqual(len(works), 6)
        before = told(works)
        self.assertEqual(caught(works.do, ('put', 'g', CUP)), ('TooMany', {'most': 6}))
        self.assertEqual(caught(works.do, ('put', 'a', CUP)), ('DuplicateName', {'name': 'a'}))
        self.assertEqual(caught(works.do, ('put', 'A', CUP)), ('InvalidName', {'value': 'A'}))
        self.assertEqual(told(works), before)
        works.do(('drop', 'c'), ('put', 'g', CUP))
        self.assertEqual(works.names(), list('abdefg'))

    def test_drop(self):
        works = works_with(('cup', CUP), ('a', HOOKED))
        works.do(('drop', 'cup'))
        self.assertEqual(works.names(), ['a'])
        for value in WRONG_JOBS + ['cup']:
            self.refused(works, ('drop', value), 'UnknownName', name=value)

    def test_move(self):
        works = works_with(('cup', CUP), ('a', PINNED))
        works.do(('step', 'a', STEP))
        works.do(('move', 'a', 'z'))
        self.assertEqual([works.names(), works.bench('z')], [['cup', 'z'], State(PINNED).after(STEP)])
        for value in WRONG_JOBS + ['a']:
            if value != 'z':
                self.refused(works, ('move', value, 'b'), 'UnknownName', name=value)
                self.refused(works, ('move', value, None), 'UnknownName', name=value)
        for value in WRONG_NAMES:
            self.refused(works, ('move', 'z', value), 'InvalidName', value=value)
        for fresh in ('z', 'cup'):
            self.refused(works, ('move', 'z', fresh), 'DuplicateName', name=fresh)

    def test_changes_of_the_thing(self):
        for deed, thing in [(('piece', 'cup', FAR), CUP.with_piece(FAR)), (('out', 'cup', 'g'), CUP.without_piece('g')),
                            (('peg', 'cup', GLUE), CUP.with_peg(GLUE)), (('loose', 'cup', 'glue'), CUP)]:
            works = works_with(('cup', CUP if deed[0] != 'loose' else CUP.with_peg(GLUE)))
            if deed[0] != 'loose':
                works.do(('step', 'cup', ('part', UP, ('t',))))
            works.do(deed)
            self.assertEqual([works.thing_of('cup'), works.bench('cup')], [thing, State(thing)])

    def test_a_changed_thing_has_its_first_state(self):
        works = works_with(('a', PINNED))
        works.do(('step', 'a', STEP), ('step', 'a', ('draw', 'pin')))
        self.assertEqual(len(works.bench('a')), 2)
        works.do(('piece', 'a', FAR))
        self.assertEqual([works.bench('a'), works.bench('a').fast()], [State(PINNED.with_piece(FAR)), ['pin']])

    def test_errors_of_changes_in_their_order(self):
        works = works_with(('cup', CUP.with_peg(GLUE)), ('one', Thing([TONGUE])))
        for value in WRONG_JOBS:
            for deed in [('piece', value, GROOVE), ('out', value, 'x'), ('peg', value, Peg('g', 'x', 'y')), ('loose', value, 'x')]:
                self.refused(works, deed, 'UnknownName', name=value)
        self.refused(works, ('piece', 'cup', Piece('g', [box(50, 50)])), 'DuplicateName', name='g')
        self.refused(works, ('piece', 'cup', Piece('glue', [box(0, 0)])), 'DuplicateName', name='glue')
        self.refused(works, ('piece', 'cup', Piece('x', [box(0, 0)])), 'PiecesOverlap', one='g', other='x')
        for value in any_values() + ['x', 'glue', 0, ['g'], CUP]:
            self.refused(works, ('out', 'cup', value), 'UnknownName', name=value)
            self.refused(works, ('out', 'one', value), 'UnknownName', name=value)
        self.refused(works, ('out', 'one', 't'), 'TooMany', most=0)
        self.refused(works, ('peg', 'cup', GLUE), 'DuplicateName', name='glue')
        self.refused(works, ('peg', 'cup', Peg('t', 'x', 'y')), 'DuplicateName', name='t')
        self.refused(works, ('peg', 'cup', Peg('p', 'x', 't')), 'UnknownName', name='x')
        for value in any_values() + ['x', 'g', 0, ['glue'], GLUE]:
            self.refused(works, ('loose', 'cup', value), 'UnknownName', name=value)

    def test_too_many_pieces_and_pegs(self):
        nine = Thing([Piece('abcdefghi'[at], [box(3 * at, 0)]) for at in range(9)], [Peg('stuvwxyz'[at], 'a', 'b') for at in range(8)])
        works = works_with(('nine', nine))
        self.refused(works, ('piece', 'nine', Piece('a', [box(0, 0)])), 'TooMany', most=9)
        self.refused(works, ('peg', 'nine', Peg('a', 'x', 'y')), 'TooMany', most=8)

    def test_step(self):
        works = works_with(('a', PINNED))
        works.do(('step', 'a', STEP))
        self.assertEqual([works.bench('a'), works.thing_of('a')], [State(PINNED).after(STEP), PINNED])
        works.do(('step', 'a', ('draw', 'pin')))
        self.assertEqual(works.bench('a'), State(PINNED).after(STEP).after(('draw', 'pin')))

    def test_errors_of_steps_in_their_order(self):
        works = works_with(('a', PINNED))
        for value in WRONG_JOBS:
            if value != 'a':
                self.refused(works, ('step', value, None), 'UnknownName', name=value)
        for value in any_values() + [0, ['draw', 'pin'], ('join', UP, ('a',), ('b',)), ('carry', UP, ('a',)), ('part', UP, ['a']), CUP]:
            self.refused(works, ('step', 'a', value), 'InvalidStep')
        self.refused(works, ('step', 'a', ('part', UP, ('x',))), 'UnknownName', name='x')
        self.refused(works, ('step', 'a', ('part', UP, ('a', 'b', 'c', 'd'))), 'NoParting')
        self.refused(works, ('step', 'a', ('part', UP, ('b',))), 'Barred', one='b', other='c')
        self.refused(works, ('step', 'a', ('draw', 'a')), 'UnknownName', name='a')
        self.refused(works, ('step', 'a', ('draw', 'pin')), 'Held', peg='pin')
        works.do(('step', 'a', STEP))
        self.refused(works, ('step', 'a', ('part', UP, ('b',))), 'Pegged', peg='pin')
        works.do(('step', 'a', ('draw', 'pin')))
        self.refused(works, ('step', 'a', ('draw', 'pin')), 'NotFast', peg='pin')

    def test_no_deeds(self):
        works = works_with(('cup', CUP))
        before = told(works)
        good = ('drop', 'cup')
        for value in wrong_deeds():
            self.assertEqual(caught(works.do, value), ('InvalidDeed', {'at': 0}), value)
            self.assertEqual(caught(works.do, good, good, value, None), ('InvalidDeed', {'at': 2}))
            # Ahead of all other errors, also of deeds that stand ahead.
            self.assertEqual(caught(works.do, ('drop', 'z'), ('put', None, CUP), value), ('InvalidDeed', {'at': 2}))
            self.assertEqual(caught(works.tried, ('drop', 'z'), value), ('InvalidDeed', {'at': 1}))
            self.assertIs(works.busy, False)
        self.assertEqual(told(works), before)

    def test_several_deeds_all_or_none(self):
        works = works_with(('cup', CUP))
        works.do(('put', 'a', HOOKED), ('move', 'cup', 'b'), ('piece', 'b', FAR), ('step', 'b', ('part', UP, ('far',))), ('put', 'cup', SHUT))
        self.assertEqual([works.names(), works.history()], [['a', 'b', 'cup'], (2, 0)])
        self.assertEqual(works.bench('b'), State(CUP.with_piece(FAR)).after(('part', UP, ('far',))))
        before = told(works)
        self.assertEqual(caught(works.do, ('drop', 'a'), ('drop', 'b'), ('drop', 'a')), ('UnknownName', {'name': 'a'}))
        self.assertEqual(caught(works.do, ('step', 'a', ('part', RIGHT, ('c', 'd'))), ('put', 'cup', CUP)), ('DuplicateName', {'name': 'cup'}))
        self.assertEqual(told(works), before)

    def test_names_that_deeds_ahead_have_made(self):
        works = Works()
        works.do(*[('put', name, CUP) for name in 'abcdef'], ('drop', 'a'), ('put', 'a', SHUT), ('drop', 'a'), ('move', 'b', 'a'))
        self.assertEqual(works.names(), list('acdef'))
        self.assertEqual(caught(works.do, ('put', 'x', CUP), ('put', 'y', CUP)), ('TooMany', {'most': 6}))


class HistoryTests(unittest.TestCase):
    def test_undo_and_redo(self):
        works = Works()
        works.do(('put', 'a', HOOKED))
        works.do(('put', 'b', CUP), ('drop', 'a'))
        self.assertEqual(works.history(), (2, 0))
        self.assertIsNone(works.undo())
        self.assertEqual([works.names(), works.history()], [['a'], (1, 1)])
        works.undo()
        self.assertEqual([works.names(), works.history()], [[], (0, 2)])
        self.assertIsNone(works.redo())
        works.redo()
        self.assertEqual([works.names(), works.history()], [['b'], (2, 0)])

    def test_nothing_left(self):
        works = works_with(('a', CUP))
        self.assertEqual(caught(works.redo), ('NothingLeft', {}))
        works.undo()
        before = told(works)
        self.assertEqual(caught(works.undo), ('NothingLeft', {}))
        self.assertEqual(told(works), before)
        works.redo()
        self.assertEqual(caught(works.redo), ('NothingLeft', {}))
        self.assertEqual(caught(Works().undo), ('NothingLeft', {}))
        self.assertIs(works.busy, False)

    def test_another_step_ends_what_can_be_redone(self):
        works = works_with(('a', CUP))
        works.undo()
        works.do(('put', 'b', CUP))
        self.assertEqual([works.history(), caught(works.redo)], [(1, 0), ('NothingLeft', {})])

    def test_what_is_no_step_leaves_what_can_be_redone(self):
        works = works_with(('a', CUP))
        works.undo()
        before = told(works)
        self.assertIsNone(works.do())
        self.assertEqual(works.tried(), [])
        self.assertEqual(works.tried(('put', 'b', CUP), ('put', 'a', CUP)), ['a', 'b'])
        for deed in [('put', 'A', CUP), ('drop', 'a'), None]:
            self.assertIsNotNone(caught(works.do, deed))
            self.assertIsNotNone(caught(works.do, ('put', 'b', CUP), deed))
            self.assertIsNotNone(caught(works.tried, ('put', 'b', CUP), deed))
        for line in ('names', 'drop a', 'x', 'lots a'):
            works.say(line)
        self.assertEqual(told(works), before)
        self.assertEqual(works.history(), (0, 1))
        works.redo()
        self.assertEqual(works.names(), ['a'])

    def test_a_step_that_changes_nothing_is_one(self):
        works = works_with(('a', CUP))
        works.do(('move', 'a', 'b'), ('move', 'b', 'a'))
        self.assertEqual(works.history(), (2, 0))

    def test_tried(self):
        works = works_with(('c', CUP), ('a', HOOKED))
        before = told(works)
        self.assertEqual(works.tried(), ['a', 'c'])
        self.assertEqual(works.tried(('put', 'b', CUP), ('drop', 'c'), ('move', 'a', 'z')), ['b', 'z'])
        self.assertEqual(caught(works.tried, ('drop', 'x')), ('UnknownName', {'name': 'x'}))
        self.assertEqual(caught(works.tried, ('drop', 'c'), ('step', 'c', STEP)), ('UnknownName', {'name': 'c'}))
        self.assertEqual((told(works), works.busy), (before, False))


class JournalTests(unittest.TestCase):
    def test_what_was_called_and_not_refused(self):
        works = Works()
        one, other = ('put', 'a', HOOKED), ('put', 'b', CUP)
        works.do(one, other)
        works.do()
        self.assertIsNotNone(caught(works.do, one))
        self.assertIsNotNone(caught(works.do, None))
        self.assertIsNotNone(caught(works.redo))
        works.undo()
        self.assertIsNotNone(caught(works.undo))
        works.redo()
        works.tried(('drop', 'a'))
        works.do(('drop', 'a'))
        expected = [('do', (one, other)), ('undo',), ('redo',), ('do', (('drop', 'a'),))]
        self.assertEqual(works.journal(), expected)
        self.assertIsInstance(works.journal()[0][1], tuple)

    def test_what_say_does_stands_there_too(self):
        works = works_with(('a', PINNED))
        for line in ['part a -1 0 b a b', 'draw a pin', 'names', 'draw a pin', 'undo', 'redo', 'redo', 'move a z', 'drop z', 'drop z', 'x']:
            works.say(line)
        self.assertEqual(works.journal()[1:], [
            ('do', (('step', 'a', STEP),)), ('do', (('step', 'a', ('draw', 'pin')),)), ('undo',), ('redo',),
            ('do', (('move', 'a', 'z'),)), ('do', (('drop', 'z'),))])

    def test_played(self):
        works = works_with(('a', PINNED), ('cup', CUP))
        works.say('part a -1 0 a b')
        works.say('undo')
        works.do(('peg', 'cup', GLUE))
        works.undo()
        for journal in (works.journal(), tuple(works.journal())):
            other = Works.played(journal)
            self.assertIsInstance(other, Works)
            self.assertEqual(other, works)
            self.assertEqual(told(other), told(works))
            self.assertEqual(other.log(), [])
        self.assertEqual(Works.played(journal=[]), Works())
        self.assertEqual(works.played([]), Works())
        self.assertEqual(len(works), 2)

    def test_played_goes_on_by_itself(self):
        works = works_with(('a', PINNED))
        journal = works.journal()
        other = Works.played(journal)
        journal.clear()
        other.do(('drop', 'a'))
        self.assertEqual([works.names(), other.names(), len(other.journal()), len(works.journal())], [['a'], [], 2, 1])

    def test_no_list(self):
        for value in [None, True, 0, 5, '', 'undo', {}, {0: ('undo',)}, CUP, Works()]:
            self.assertEqual(caught(Works.played, value), ('InvalidDeed', {'at': -1}))

    def test_items_that_are_none(self):
        good = ('do', (('put', 'a', CUP),))
        rows = [('do',), ('do', ()), ('do', []), ('do', [('put', 'a', CUP)]), ('do', ('put', 'a', CUP)), ('do', 'put'), ('do', None),
                ('do', (('put', 'a', CUP),), 1), ('do', {}), ['do', (('put', 'a', CUP),)], ('undo', ()), ('undo', 1), ('redo', None), ['undo'],
                'undo', 'redo', ('put', 'a', CUP), ('Do', (('put', 'a', CUP),)), (None, (('put', 'a', CUP),)), (), ('say', 'names'),
                ('tried', (('put', 'a', CUP),)), CUP, Works(), ('do', CUP), (('do',), ()), (['undo'],)]
        rows += [('do', (value,)) for value in wrong_deeds()] + [('do', (('put', 'a', CUP), value)) for value in wrong_deeds()[:5]]
        for value in rows + any_values():
            self.assertEqual(caught(Works.played, [value]), ('InvalidDeed', {'at': 0}), value)
            self.assertEqual(caught(Works.played, (good, good, ('undo',), value, None)), ('InvalidDeed', {'at': 3}))
            # Ahead of the first call, also if that would be refused.
            self.assertEqual(caught(Works.played, [('undo',), value]), ('InvalidDeed', {'at': 1}))

    def test_calls_that_are_refused(self):
        good = ('do', (('put', 'a', CUP),))
        for journal, expected in [
            ([('undo',)], ('NothingLeft', {})), ([('redo',)], ('NothingLeft', {})), ([good, ('undo',), ('undo',)], ('NothingLeft', {})),
            ([good, good], ('DuplicateName', {'name': 'a'})), ([('do', (('drop', 'x'),))], ('UnknownName', {'name': 'x'})),
            ([('do', (('put', None, CUP),))], ('InvalidName', {'value': None})), ([good, ('do', (('step', 'a', 5),))], ('InvalidStep', {})),
            ([good, ('do', (('step', 'a', ('part', RIGHT, ('t',))),))], ('Barred', {'one': 't', 'other': 'g'})),
        ]:
            self.assertEqual(caught(Works.played, journal), expected)


class TwinTests(unittest.TestCase):
    def test_both_go_on_apart_from_one_another(self):
        works = works_with(('a', PINNED), ('cup', CUP))
        works.say('part a -1 0 a b')
        works.say('undo')
        twin = works.twin()
        self.assertIsInstance(twin, Works)
        self.assertEqual((twin, told(twin), twin.log(), twin.busy), (works, told(works), works.log(), False))
        before = (told(works), works.log())
        twin.redo()
        twin.do(('drop', 'cup'))
        twin.undo()
        twin.say('names')
        twin.do(('drop', 'a'))
        self.assertEqual((told(works), works.log()), before)
        before = (told(twin), twin.log())
        works.redo()
        works.say('x')
        works.do(('put', 'z', CUP))
        self.assertEqual((told(twin), twin.log()), before)
        self.assertEqual([works.names(), twin.names()], [['a', 'cup', 'z'], ['cup']])

    def test_undo_goes_back_behind_the_twinning(self):
        works = works_with(('a', CUP))
        twin = works.twin()
        twin.undo()
        self.assertEqual([twin.names(), works.names()], [[], ['a']])
        self.assertEqual(Works().twin(), Works())


def answers(works, *lines):
    return [works.say(line) for line in lines]


class SayTests(unittest.TestCase):
    def test_names(self):
        self.assertEqual(Works().say('names'), 'none')
        self.assertEqual(works_with(('cup', CUP), ('a', CUP), ('bb', CUP)).say(line='names'), 'a bb cup')

    def test_questions(self):
        works = works_with(('a', PINNED), ('shut', SHUT), ('row', PEGGED_ROW))
        self.assertEqual(answers(works, 'lots a', 'pegs a', 'ended a', 'clumps a', 'kernel a', 'turnings a', 'price a d'),
                         ['a+b+c+d', 'pin', 'no', 'a b c d', 'a b c d', '2', '2'])
        self.assertEqual(answers(works, 'lots shut', 'pegs shut', 'ended shut', 'clumps shut', 'kernel shut', 'turnings shut', 'price shut i'),
                         ['f+i', 'none', 'yes', 'f+i', 'f i', '0', '2'])
        self.assertEqual(answers(works, 'pegs row', 'clumps row', 'kernel row'), ['glue held pin', 'a+d b c', 'a b c d'])
        self.assertEqual(answers(works_with(('r', Thing(ROW))), 'clumps r', 'kernel r', 'turnings r', 'price r b'), ['a b c d', 'none', '1', '1'])

    def test_questions_by_chance(self):
        chance = random.Random(1001)
        for _ in range(25):
            thing = random_thing(chance, 5, 3)
            works = works_with(('job', thing))
            for _ in range(chance.randint(0, 4)):
                offers = works.bench('job').offers()
                if offers:
                    works.do(('step', 'job', chance.choice(offers)))
            bench = works.bench('job')
            name = chance.choice(thing.names())
            self.assertEqual(
                answers(works, 'lots job', 'pegs job', 'ended job', 'clumps job', 'kernel job', 'turnings job', f'price job {name}'),
                [' '.join('+'.join(lot.names()) for lot in bench.lots()), ' '.join(bench.fast()) or 'none', 'yes' if bench.is_ended() else 'no',
                 ' '.join('+'.join(names) for names, _ in clumps(thing)), ' '.join(kernel(thing)[0]) or 'none', str(fewest_turnings(thing)),
                 str(price_of(thing, name, {other: 1 for other in thing.names()}))])

    def test_what_is_done(self):
        works = works_with(('a', PINNED))
        self.assertEqual(works('part a -1 0 b a'), 'done')
        self.assertEqual(works.bench('a'), State(PINNED).after(STEP))
        self.assertEqual(answers(works, 'draw a pin', 'lots a', 'pegs a'), ['done', 'a+b c+d', 'none'])
        self.assertEqual(answers(works, 'undo', 'pegs a', 'redo', 'pegs a'), ['done', 'pin', 'done', 'none'])
        self.assertEqual(answers(works, 'part a 0 1 b b b', 'part a 0 1 c', 'ended a', 'lots a'), ['done', 'done', 'yes', 'a b c d'])
        self.assertEqual(answers(works, 'move a z', 'names', 'drop z', 'names'), ['done', 'z', 'done', 'none'])
        self.assertEqual(works.history(), (7, 0))

    def test_errors(self):
        works = works_with(('a', PINNED), ('b', CUP), ('c', Thing([TONGUE])))
        before = told(works)
        for line, code in [
            ('lots z', 'UnknownName'), ('pegs z', 'UnknownName'), ('ended z', 'UnknownName'), ('clumps z', 'UnknownName'),
            ('kernel z', 'UnknownName'), ('turnings z', 'UnknownName'), ('price z a', 'UnknownName'), ('price a z', 'UnknownName'),
            ('price a pin', 'UnknownName'), ('price z z', 'UnknownName'), ('part z 1 0 a', 'UnknownName'), ('part a 1 0 z', 'UnknownName'),
            ('part a 1 0 a z', 'UnknownName'), ('part a 1 0 a b c d', 'NoParting'), ('part c 1 0 t', 'NoParting'), ('part a 0 1 b', 'Barred'),
            ('part b 1 0 t', 'Barred'), ('draw a pin', 'Held'), ('draw a z', 'UnknownName'), ('draw z pin', 'UnknownName'),
            ('draw a b', 'UnknownName'), ('drop z', 'UnknownName'), ('move z y', 'UnknownName'), ('move a b', 'DuplicateName'),
            ('move a a', 'DuplicateName'), ('move a A', 'InvalidName'), ('move a toolong', 'InvalidName'), ('move z A', 'UnknownName'),
            ('redo', 'NothingLeft'), ('lots !', 'UnknownName'), ('lots a+b', 'UnknownName'), ('price a D', 'UnknownName'), ('price a 7', 'UnknownName'),
            ('lots toolong', 'UnknownName'), ('part A 1 0 a', 'UnknownName'), ('part A 1 0 A', 'UnknownName'),
            # Pieces and pegs that are no names make no step.
            ('part a 1 0 A', 'InvalidStep'), ('part a 1 0 b 7', 'InvalidStep'), ('draw a Pin', 'InvalidStep'), ('draw z Pin', 'UnknownName'),
        ]:
            self.assertEqual(works.say(line), f'error {code}', line)
        self.assertEqual(told(works), before)
        self.assertEqual(Works().say('undo'), 'error NothingLeft')
        works.say('part a -1 0 a b')
        self.assertEqual(answers(works, 'part a 0 1 b', 'draw a pin', 'draw a pin'), ['error Pegged', 'done', 'error NotFast'])

    def test_unknown_lines(self):
        works = works_with(('a', PINNED), ('b', CUP))
        before = told(works)
        for line in [
            '', ' ', '\n', 'x', 'a', 'Names', 'names ', ' names', 'names a', 'names\n', '\nnames', 'lots', 'lots ', 'lots a b', 'lots  a', 'lots a ',
            'lots a\n', 'lots a\nb', ' lots a', 'pegs', 'pegs a b', 'ended', 'ended a b', 'clumps', 'clumps a b', 'kernel', 'kernel a a', 'turnings',
            'turnings a b', 'price', 'price a', 'price a b c', 'price a  b', 'price a b ', 'part', 'part a', 'part a 1', 'part a 1 0', 'part a 1 0 ',
            'part a 2 0 b', 'part a 0 0 b', 'part a 01 0 b', 'part a -0 1 b', 'part a 1000 1 b', 'part a x y b', 'part a b c', 'part a b', 'part a +1 0 b',
            'part a 1 0  b', 'part a 1 0 b ', 'part  a 1 0 b', 'part a 1 0 b\n', 'part a 1.0 0 b', 'part z 2 0 b', 'draw', 'draw a', 'draw a pin pin',
            'draw a pin\n', 'draw a ', 'drop', 'drop a b', 'drop ', 'drop a\n', 'move', 'move a', 'move a b c', 'move a ', 'undo a', 'undo ', 'redo a',
            'put a', 'piece a', 'out a b', 'peg a b', 'loose a pin', 'step a', 'log', 'journal', 'history', 'twin', 'bench a', 'thing a', 'look', 'do a',
            'turn 1 0', 'let a b', 'close', 'NAMES', 'done', 'none', 'error', 'unknown', 'names;names', 'lots\na',
        ]:
            self.assertEqual(works.say(line), 'unknown', line)
        self.assertEqual(told(works), before)

    def test_words_may_be_any_strings_without_spaces(self):
        works = works_with(('a', PINNED))
        for word in ['!', '~', '+', '-1', '0', 'a+b', 'A', '"', "'", '(a,)', 'toolong', '\\', '{a}']:
            self.assertEqual(works.say(f'lots {word}'), 'error UnknownName')
            self.assertEqual(works.say(f'price a {word}'), 'error UnknownName')
            self.assertEqual(works.say(f'move a {word}'), 'error InvalidName')
            self.assertEqual(works.say(f'drop {word}'), 'error UnknownName')

    def test_log(self):
        works = works_with(('a', PINNED))
        lines = ['names', 'x', '', 'lots z', 'part a -1 0 a b', 'undo', 'undo', 'undo', 'names\n']
        expected = list(zip(lines, ['a', 'unknown', 'unknown', 'error UnknownName', 'done', 'done', 'done', 'error NothingLeft', 'unknown']))
        self.assertEqual([works(line) if at % 2 else works.say(line) for at, line in enumerate(lines)], [answer for _, answer in expected])
        self.assertEqual(works.log(), expected)
        # Undo takes no line back from the log.
        self.assertEqual([works.names(), len(works.log())], [[], 9])

    def test_called_by_name(self):
        works = Works()
        self.assertEqual([works(line='names'), works.say(line='names')], ['none', 'none'])

    def test_busy_is_false_behind_each_call(self):
        works = works_with(('a', PINNED))
        for call in [lambda: works.do(('drop', 'z')), lambda: works.do(None), lambda: works.tried(('drop', 'z')), lambda: works.undo() or works.undo(),
                     lambda: works.say('drop z'), lambda: works.redo() or works.redo(), lambda: works.do(('step', 'a', None)),
                     lambda: works.do(('drop', 'a')), lambda: Works.played([None])]:
            caught(call)
            self.assertIs(works.busy, False)


class SpyTests(unittest.TestCase):
    def test_busy_while_deeds_are_being_done(self):
        works, seen = Works(), []

        class Spy(Thing):
            def without_piece(self, name):
                seen.append(works.busy)
                if name == 'stop':
                    raise KeyError(name)
                return Thing.without_piece(self, name)

        works.do(('put', 'a', Spy(CUP.pieces())))
        works.tried(('out', 'a', 'g'))
        self.assertEqual(caught(works.do, ('out', 'a', 'x')), ('UnknownName', {'name': 'x'}))
        with self.assertRaises(KeyError):
            works.do(('drop', 'a'), ('put', 'a', Spy(CUP.pieces())), ('out', 'a', 'stop'))
        self.assertEqual([seen, works.busy, works.history()], [[True] * 3, False, (1, 0)])
        works.do(('out', 'a', 'g'))
        self.assertEqual([seen[3:], works.busy, works.thing_of('a').names()], [[True], False, ['t']])


class ModelTests(unittest.TestCase):
    """A works against a plain model: the jobs of all steps, and how far they have been taken back."""

    def test_calls_by_chance(self):
        chance = random.Random(1002)
        things = [random_thing(chance, 4, 2) for _ in range(6)]
        done = []
        for _ in range(30):
            works = Works()
            rows, at = [{}], 0
            for _ in range(30):
                kind = chance.randint(0, 9)
                if kind == 0:
                    self.assertEqual(caught(works.undo), None if at else ('NothingLeft', {}))
                    at = max(at - 1, 0)
                elif kind == 1:
                    self.assertEqual(caught(works.redo), None if at < len(rows) - 1 else ('NothingLeft', {}))
                    at = min(at + 1, len(rows) - 1)
                else:
                    deeds = [self.deed(chance, things, rows[at]) for _ in range(chance.choice([0, 1, 1, 1, 2, 3]))]
                    jobs, error = self.behind(rows[at], deeds)
                    self.assertEqual(caught(works.do, *deeds), error, deeds)
                    done.append(error)
                    if error is None and deeds:
                        rows = rows[:at + 1] + [jobs]
                        at += 1
                self.assertEqual({name: works.bench(name) for name in works.names()}, rows[at])
                self.assertEqual(works.history(), (at, len(rows) - 1 - at))
            self.assertEqual(told(Works.played(works.journal())), told(works))
        self.assertGreater(min(done.count(None), len(done) - done.count(None)), 100)

    def deed(self, chance, things, jobs):
        """A deed by chance, which often can be done."""
        name = chance.choice([*jobs, *jobs, 'a', 'b', 'c', 'd', 'e', 'f', 'g'])
        word = chance.choice(WORDS + ['put', 'put', 'step', 'step', 'step'])
        thing = jobs[name].thing if name in jobs else things[0]
        steps = jobs[name].offers() if name in jobs else []
        third = {
            'put': chance.choice(things), 'move': chance.choice(['a', 'h', 'i', 'A']), 'piece': FAR, 'out': chance.choice(thing.names() + ['x']),
            'peg': random_peg(chance, chance.choice(['k', 'l']), thing.names() if len(thing) > 1 else ['x', 'y']),
            'loose': chance.choice(thing.peg_names() + ['x']), 'step': chance.choice(steps + [('draw', 'x')]),
        }
        return (word, name) if word == 'drop' else (word, name, third[word])

    def behind(self, jobs, deeds):
        """The jobs behind deeds, and the error of the first one that is refused."""
        jobs = dict(jobs)
        for word, name, *more in deeds:
            if word != 'put' and name not in jobs:
                return None, ('UnknownName', {'name': name})
            fresh = name if word == 'put' else more[0] if word == 'move' else None
            if fresh == 'A':
                return None, ('InvalidName', {'value': 'A'})
            if fresh in jobs:
                return None, ('DuplicateName', {'name': fresh})
            if word == 'put' and len(jobs) == 6:
                return None, ('TooMany', {'most': 6})
            calls = {'put': lambda: State(more[0]), 'drop': lambda: None, 'move': lambda: jobs[name],
                     'piece': lambda: State(jobs[name].thing.with_piece(more[0])), 'out': lambda: State(jobs[name].thing.without_piece(more[0])),
                     'peg': lambda: State(jobs[name].thing.with_peg(more[0])), 'loose': lambda: State(jobs[name].thing.without_peg(more[0])),
                     'step': lambda: jobs[name].after(more[0])}
            error = caught(calls[word])
            if error is not None:
                return None, error
            bench = calls[word]()
            if word in ('drop', 'move'):
                del jobs[name]
            if word != 'drop':
                jobs[fresh or name] = bench
        return jobs, None

    def test_lines_do_the_same_as_deeds_and_instructions(self):
        chance = random.Random(1003)
        for _ in range(20):
            thing = random_thing(chance, 5, 3)
            works, other, state, steps = works_with(('job', thing)), works_with(('job', thing)), State(thing), []
            while not state.is_ended():
                step = chance.choice(state.offers())
                steps.append(step)
                state = state.after(step)
                other.do(('step', 'job', step))
                names = ' '.join(chance.sample(step[2], len(step[2]))) if step[0] == 'part' else ''
                line = f'part job {step[1][0]} {step[1][1]} {names}' if step[0] == 'part' else f'draw job {step[1]}'
                self.assertEqual(works.say(line), 'done')
                self.assertEqual([works.bench('job'), works], [state, other])
            self.assertEqual(run(thing, written(steps)), state)
            self.assertEqual(works.journal(), other.journal())
            for _ in steps:
                self.assertEqual(works.say('undo'), 'done')
            self.assertEqual(works.bench('job'), State(thing))


class KindTests(unittest.TestCase):
    def test_pairs_of_deeds_in_any_order(self):
        works = works_with(('a', HOOKED), ('b', CUP))
        for one, other in itertools.permutations([('drop', 'a'), ('move', 'b', 'a'), ('put', 'b', SHUT), ('step', 'a', ('part', LEFT, ('a', 'b')))], 2):
            before = told(works)
            twin = works.twin()
            expected = caught(twin.do, one) or caught(twin.do, other)
            self.assertEqual(caught(works.tried, one, other), expected)
            if expected is None:
                self.assertEqual(works.tried(one, other), twin.names())
            self.assertEqual(told(works), before)

    def test_lots_are_no_benches(self):
        self.assertEqual(caught(Works().do, ('put', 'a', Lot(CUP))), ('InvalidDeed', {'at': 0}))
        self.assertEqual(caught(Works().do, ('put', 'a', State(CUP))), ('InvalidDeed', {'at': 0}))
        self.assertEqual(caught(Works().do, ('peg', 'a', PIN)), ('UnknownName', {'name': 'a'}))


if __name__ == '__main__':
    unittest.main()
