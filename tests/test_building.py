import random
import unittest

from reference import with_between
from samples import DOWN, FRAME, HOOKS, INNER, LEFT, PEGGED_ROW, PIN, RIGHT, ROW, TONGUE, UP
from samples import any_values, caught, random_thing
from stucklots.building import building, rebuilt, turned_back
from stucklots.clumps import ended_state, played, taken_apart
from stucklots.pegs import Peg
from stucklots.states import State
from stucklots.things import Thing

HOOKED = Thing(HOOKS)
PINNED = Thing(HOOKS, [Peg('pin', 'b', 'a', [((3, 8), UP)])])
STEPS = [('part', LEFT, ('a', 'b')), ('draw', 'pin'), ('part', UP, ('b',)), ('part', UP, ('c',))]
BACK = [('join', DOWN, ('c',), ('d',)), ('join', DOWN, ('b',), ('a',)), ('peg', 'pin'), ('join', RIGHT, ('a', 'b'), ('c', 'd'))]


def drawn(seed, many, most=5, pegs=4):
    chance = random.Random(seed)
    return [(chance, random_thing(chance, most, pegs)) for _ in range(many)]


def steps_by_chance(chance, thing):
    """Some steps from the first state on: drawings, and partings of any sets that can leave in any directions."""
    state, steps = State(thing), []
    for _ in range(chance.randint(0, 9)):
        offers = [step for step in state.offers() if step[0] == 'draw' or chance.random() < 0.2]
        for lot in state.lots():
            direction = chance.choice(with_between(lot.compass()))
            offers += [('part', direction, names) for names in lot.leaving(direction)]
        if not offers:
            break
        steps.append(chance.choice(offers))
        state = state.after(steps[-1])
    return steps


class TurnedBackTests(unittest.TestCase):
    def test_values(self):
        self.assertEqual(turned_back(HOOKED, []), [])
        self.assertEqual(turned_back(PINNED, STEPS), BACK)
        self.assertEqual(turned_back(PINNED, STEPS[:3]), BACK[1:])
        self.assertEqual(turned_back(steps=tuple(STEPS[:2]), thing=PINNED), BACK[2:])
        self.assertEqual(turned_back(PEGGED_ROW, [('draw', 'pin'), ('part', UP, ('b', 'c'))]),
                         [('join', DOWN, ('b', 'c'), ('a', 'd')), ('peg', 'pin')])

    def test_the_join_has_the_rest_of_the_lot_alone(self):
        steps = [('part', UP, ('b', 'd')), ('part', (2, 1), ('d',))]
        self.assertEqual(turned_back(Thing(ROW), steps), [('join', (-2, -1), ('d',), ('b',)), ('join', DOWN, ('b', 'd'), ('a', 'c'))])

    def test_the_first_step_that_cannot_be_taken(self):
        good = STEPS[:1]
        for step, expected in [
            (None, ('InvalidStep', {})), (BACK[0], ('InvalidStep', {})), (BACK[2], ('InvalidStep', {})), (['draw', 'pin'], ('InvalidStep', {})),
            (('part', UP, ('x',)), ('UnknownName', {'name': 'x'})), (('part', UP, ('b', 'c')), ('NoParting', {})),
            (('part', RIGHT, ('b',)), ('Barred', {'one': 'b', 'other': 'a'})), (('part', UP, ('b',)), ('Pegged', {'peg': 'pin'})),
            (('draw', 'c'), ('UnknownName', {'name': 'c'})),
        ]:
            for further in ([], [None], [('draw', 'pin')]):
                self.assertEqual(caught(turned_back, PINNED, good + [step] + further), expected)
                self.assertEqual(caught(played, PINNED, good + [step] + further), expected)
        self.assertEqual(caught(turned_back, PINNED, [('draw', 'pin')] + good), ('Held', {'peg': 'pin'}))
        self.assertEqual(caught(turned_back, PINNED, good + [('draw', 'pin')] * 2), ('NotFast', {'peg': 'pin'}))
        for value in any_values():
            self.assertEqual(caught(turned_back, PINNED, [value]), ('InvalidStep', {}))

    def test_over_the_same_states_back_to_the_first_one(self):
        pegs = joins = 0
        for chance, thing in drawn(501, 60):
            steps = steps_by_chance(chance, thing)
            states = [played(thing, steps[:many]) for many in range(len(steps) + 1)]
            back = turned_back(thing, steps)
            self.assertEqual(len(back), len(steps))
            self.assertEqual([rebuilt(states[-1], back[:many]) for many in range(len(back) + 1)], states[::-1])
            self.assertEqual(rebuilt(states[-1], back), State(thing))
            pegs += len([step for step in back if step[0] == 'peg'])
            joins += len([step for step in back if step[0] == 'join'])
        self.assertGreater(min(pegs, joins), 25)

    def test_lists_are_new_and_not_changed(self):
        steps = STEPS[:3]
        turned_back(PINNED, steps).clear()
        self.assertEqual((steps, turned_back(PINNED, steps)), (STEPS[:3], BACK[1:]))


class RebuiltTests(unittest.TestCase):
    def test_values(self):
        apart = played(PINNED, STEPS[:3])
        self.assertEqual(rebuilt(apart, []), apart)
        self.assertEqual(rebuilt(apart, BACK[1:2]), played(PINNED, STEPS[:2]))
        self.assertEqual(rebuilt(steps=tuple(BACK[1:]), state=apart), State(PINNED))
        self.assertEqual(rebuilt(ended_state(PINNED), BACK), State(PINNED))
        self.assertEqual(len(apart), 3)

    def test_the_first_building_step_that_cannot_be_done(self):
        apart = played(PINNED, STEPS[:3])
        good = BACK[1:2]
        for step, expected in [
            (None, ('InvalidStep', {})), (STEPS[0], ('InvalidStep', {})), (STEPS[1], ('InvalidStep', {})),
            (('join', UP, ('a', 'x'), ('c',)), ('UnknownName', {'name': 'x'})), (('join', UP, ('a',), ('c', 'd')), ('NoJoining', {})),
            (('join', UP, ('c', 'd'), ('a', 'b')), ('Barred', {'one': 'c', 'other': 'a'})),
            (('peg', 'x'), ('UnknownName', {'name': 'x'})), (BACK[1], ('NoJoining', {})),
        ]:
            self.assertEqual(caught(rebuilt, apart, good + [step, None]), expected)
        self.assertEqual(caught(rebuilt, apart, [('peg', 'pin')]), ('NoJoining', {}))
        self.assertEqual(caught(rebuilt, apart, good + [BACK[3], ('peg', 'pin')]), ('Held', {'peg': 'pin'}))
        self.assertEqual(caught(rebuilt, apart, BACK[1:3] + [BACK[2]]), ('NoJoining', {}))
        for value in any_values():
            self.assertEqual(caught(rebuilt, apart, [value]), ('InvalidStep', {}))

    def test_lists_are_not_changed(self):
        steps = BACK[1:]
        state = played(PINNED, STEPS[:3])
        rebuilt(state, steps)
        self.assertEqual((steps, state), (BACK[1:], played(PINNED, STEPS[:3])))


class BuildingTests(unittest.TestCase):
    def check(self, thing):
        found = building(thing)
        self.assertIsInstance(found, tuple)
        state, steps = found
        self.assertIsInstance(steps, list)
        self.assertEqual(state, ended_state(thing))
        self.assertEqual(rebuilt(state, steps), State(thing))
        self.assertEqual(building(Thing(thing.pieces()[::-1], thing.pegs()[::-1])), found)
        return steps

    def test_from_the_ended_state_to_the_first_state(self):
        for thing in (HOOKED, PINNED, PEGGED_ROW, Thing(ROW, [PIN])):
            self.assertEqual(len(self.check(thing)), len(taken_apart(thing)))
        for thing in (Thing([FRAME, INNER]), Thing([TONGUE])):
            self.assertEqual(self.check(thing), [])
        self.assertIn(('peg', 'pin'), self.check(PINNED))

    def test_by_chance(self):
        words = []
        for _, thing in drawn(502, 50, 6):
            words += [step[0] for step in self.check(thing)]
        self.assertGreater(min(words.count('peg'), words.count('join')), 20)

    def test_by_name_and_new_lists(self):
        building(thing=PINNED)[1].clear()
        self.assertEqual(len(building(PINNED)[1]), 4)


if __name__ == '__main__':
    unittest.main()
