import random
import unittest

from reference_lots import all_offers
from samples import FRAME, GROOVE, HOOKS, INNER, TONGUE, any_values, box, caught, random_thing
from stucklots.clumps import clump_of, clumps, ended_state, is_one_clump, played, taken_apart
from stucklots.lots import Lot
from stucklots.pegs import Peg
from stucklots.pieces import Piece
from stucklots.states import State
from stucklots.things import Thing

UP = (0, 1)
HOOKED = Thing(HOOKS, [Peg('pin', 'b', 'a', [((3, 8), UP)])])
FRAMED = Thing([FRAME, INNER, Piece('x', [box(20, 0)]), Piece('y', [box(20, 2)])],
               [Peg('glue', 'x', 'i'), Peg('pin', 'f', 'x', [((0, 0), (0, -1))]), Peg('held', 'f', 'i', [((4, 4), UP)])])
PICKS = [[], [0], [1], [5, 3, 1], [-1], [-7, -8, -9, -10], [999999999] * 20, [-999999999, 3] * 10, list(range(40)), (2, 1)]


def steps_by_words(thing, picks):
    """The steps with the told picks among the offers, by the words of the interface."""
    steps, state = [], State(thing)
    while all_offers(state):
        offers = all_offers(state)
        pick = picks[len(steps)] if len(steps) < len(picks) else 0
        steps.append(offers[pick - len(offers) * (pick // len(offers))])
        state = state.after(steps[-1])
    return steps


class TakenApartTests(unittest.TestCase):
    def test_values(self):
        self.assertEqual(taken_apart(Thing([GROOVE, TONGUE])), [('part', (0, 1), ('t',))])
        self.assertEqual(taken_apart(Thing([GROOVE, TONGUE]), [1]), [('part', (0, -1), ('g',))])
        self.assertEqual(taken_apart(Thing([FRAME, INNER])), [])
        self.assertEqual(taken_apart(Thing([TONGUE]), [3, 4]), [])
        self.assertEqual(taken_apart(picks=[], thing=HOOKED)[:2], [('part', (1, 0), ('c', 'd')), ('draw', 'pin')])
        self.assertEqual(taken_apart(HOOKED, [-1])[:2], [('part', (-1, 0), ('a', 'b')), ('draw', 'pin')])

    def test_picks_by_the_words(self):
        chance = random.Random(81)
        for thing in [HOOKED, FRAMED, random_thing(chance, 4, 3), random_thing(chance, 4, 3)]:
            for picks in PICKS:
                self.assertEqual(taken_apart(thing, picks), steps_by_words(thing, picks))

    def test_the_same_end_whatever_the_picks(self):
        chance = random.Random(82)
        for _ in range(25):
            thing = random_thing(chance, 5, 3)
            ended = ended_state(thing)
            self.assertIs(ended.is_ended(), True)
            for picks in PICKS + [[chance.randint(-99, 99) for _ in range(12)] for _ in range(4)]:
                steps = taken_apart(thing, picks)
                self.assertIsInstance(steps, list)
                self.assertEqual(played(thing, steps), ended)

    def test_lists_are_new_and_not_changed(self):
        picks = [3, -1]
        found = taken_apart(HOOKED, picks)
        before = list(found)
        found.clear()
        self.assertEqual((taken_apart(HOOKED, picks), picks), (before, [3, -1]))


class PlayedTests(unittest.TestCase):
    def test_values(self):
        self.assertEqual(played(HOOKED, []), State(HOOKED))
        self.assertEqual(played(steps=(), thing=HOOKED), State(HOOKED))
        steps = [('part', (-1, 0), ('a', 'b')), ('draw', 'pin')]
        self.assertEqual(played(HOOKED, steps), State(HOOKED).after(steps[0]).after(steps[1]))
        self.assertEqual(played(HOOKED, tuple(steps)).fast(), [])

    def test_errors_of_the_first_step_that_cannot_be_taken(self):
        good = [('part', (-1, 0), ('a', 'b'))]
        for step, expected in [(None, ('InvalidStep', {})), (('part', (0, 1), ['a']), ('InvalidStep', {})),
                               (('part', UP, ('x',)), ('UnknownName', {'name': 'x'})), (('part', UP, ('b', 'c')), ('NoParting', {})),
                               (('part', (1, 0), ('b',)), ('Barred', {'one': 'b', 'other': 'a'})),
                               (('part', UP, ('b',)), ('Pegged', {'peg': 'pin'})), (('draw', 'c'), ('UnknownName', {'name': 'c'}))]:
            self.assertEqual(caught(played, HOOKED, good + [step, None]), expected)
        self.assertEqual(caught(played, HOOKED, [('draw', 'pin')] + good), ('Held', {'peg': 'pin'}))
        self.assertEqual(caught(played, HOOKED, good + [('draw', 'pin')] * 2), ('NotFast', {'peg': 'pin'}))


class ClumpsTests(unittest.TestCase):
    def test_values(self):
        self.assertEqual(clumps(HOOKED), [((name,), ()) for name in 'abcd'])
        self.assertEqual(clumps(thing=Thing([FRAME, INNER])), [(('f', 'i'), ())])
        self.assertEqual(clumps(FRAMED), [(('f', 'i', 'x'), ('glue', 'held')), (('y',), ())])
        self.assertEqual(clumps(Thing([TONGUE])), [(('t',), ())])
        held = Thing(HOOKS, [Peg('pin', 'b', 'a', [((3, 7), UP), ((1, 1), (0, -1))]), Peg('free', 'c', 'd', [((0, 50), UP)])])
        self.assertEqual(clumps(held), [(('a', 'b'), ('pin',)), (('c',), ()), (('d',), ())])

    def test_the_ended_state(self):
        self.assertEqual([lot.told() for lot in ended_state(thing=FRAMED).lots()], clumps(FRAMED))
        self.assertIsInstance(ended_state(FRAMED), State)
        self.assertEqual(ended_state(FRAMED).fast(), ['glue', 'held'])

    def test_each_clump_is_a_stuck_lot(self):
        chance = random.Random(83)
        for _ in range(30):
            thing = random_thing(chance, 5, 4)
            found = clumps(thing)
            self.assertEqual(found, sorted(found))
            self.assertEqual(sorted(name for names, _ in found for name in names), thing.names())
            for names, pegs in found:
                self.assertIsInstance(names, tuple)
                self.assertTrue(Lot(thing, names, fast=pegs).is_stuck())

    def test_clump_of(self):
        self.assertEqual([clump_of(FRAMED, name) for name in 'fix'], [(('f', 'i', 'x'), ('glue', 'held'))] * 3)
        self.assertEqual(clump_of(name='y', thing=FRAMED), (('y',), ()))
        for value in any_values() + ['a', 'glue', 0, ['f'], ('f',), FRAMED]:
            self.assertEqual(caught(clump_of, FRAMED, value), ('UnknownName', {'name': value}))

    def test_is_one_clump(self):
        self.assertEqual([is_one_clump(FRAMED), is_one_clump(Thing([FRAME, INNER])), is_one_clump(thing=HOOKED)],
                         [False, True, False])
        self.assertIs(is_one_clump(Thing([TONGUE])), True)
        self.assertIs(is_one_clump(Thing([TONGUE, GROOVE], [Peg('glue', 'g', 't')])), True)

    def test_lists_are_new(self):
        clumps(FRAMED).clear()
        self.assertEqual(len(clumps(FRAMED)), 2)


if __name__ == '__main__':
    unittest.main()
