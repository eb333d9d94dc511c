import itertools
import random
import unittest

from reference import with_between
from reference_lots import all_offers, all_sets, lot_is_stuck, sets_that_leave
from samples import DOWN, FRAME, GLUE, HELD, HOOKS, INNER, LEFT, PEGGED_ROW, PIN, RIGHT, ROW, UP
from samples import any_values, caught, random_thing
from stucklots.arcs import Arc
from stucklots.lots import Lot
from stucklots.pegs import Peg
from stucklots.states import State
from stucklots.things import Thing

THING = PEGGED_ROW
PINNED = Thing(ROW, [PIN, HELD])
WRONG_DIRECTIONS = [None, True, 0, '', 'up', (0, 0), (2, 0), (1000, 1), [1, 0], (True, 0), (1, 0, 0), (1,), {}, Arc.whole()]
WRONG_NAMES = [None, True, 0, '', 'A', 'toolong', 'a b', 'a\n', ('a',), ['a'], {'a': 1}, THING, PIN]
WRONG_ROWS = [None, True, 0, '', 'a', 'ab', ['a'], ['a', 'b'], (), ('b', 'a'), ('a', 'a'), ('a', 'b', 'b'), {'a': 1}, {},
              ('a', None), (None, 'a'), ('A',), ('a', 'toolong'), ('a', ('b',)), (('a',),), (0,), (True,), THING, ('',)]


def told(state):
    return [lot.told() for lot in state.lots()]


def random_state(chance, thing, most=4):
    """A state that some steps by chance lead to, over offers and over any sets that can leave."""
    state = State(thing)
    for _ in range(chance.randint(0, most)):
        steps = all_steps(state, chance)
        if not steps:
            break
        state = state.after(chance.choice(steps))
    return state


def all_steps(state, chance):
    """All drawings, and the partings of all sets that can leave in some direction of each lot."""
    steps = [step for step in state.offers() if step[0] == 'draw']
    for lot in state.lots():
        direction = chance.choice(with_between(lot.compass()))
        steps += [('part', direction, names) for names in lot.leaving(direction)]
    return steps


def wrong_steps():
    """Values that have no form of a step."""
    rows = [('part', value, ('a',)) for value in WRONG_DIRECTIONS]
    rows += [('part', UP, value) for value in WRONG_ROWS]
    rows += [('draw', value) for value in WRONG_NAMES]
    rows += [('part',), ('part', UP), ('part', UP, ('a',), ('b',)), ('part', ('a',), UP), ('draw',), ('draw', 'pin', 'pin'),
             ('part', 'pin'), ('draw', UP, ('a',)), ['part', UP, ('a',)], ['draw', 'pin'], ('Part', UP, ('a',)),
             ('join', UP, ('a',), ('b',)), ('peg', 'pin'), ('leave', UP, ('a',)), ('carry', UP, ('a',)), 'part', 'draw pin',
             ((), 'pin'), (None, 'pin'), (['draw'], 'pin'), (('draw',), 'pin'), (THING, 'pin'), THING, State(THING)]
    return rows + any_values()


def wrong_building_steps():
    """Values that have no form of a building step."""
    rows = [('join', value, ('a',), ('b',)) for value in WRONG_DIRECTIONS]
    rows += [('join', UP, value, ('b',)) for value in WRONG_ROWS]
    rows += [('join', UP, ('b',), value) for value in WRONG_ROWS]
    rows += [('peg', value) for value in WRONG_NAMES]
    rows += [('join',), ('join', UP), ('join', UP, ('a',)), ('join', UP, ('a',), ('b',), ('c',)), ('peg',), ('peg', 'pin', 'x'),
             ['join', UP, ('a',), ('b',)], ['peg', 'pin'], ('part', UP, ('a',)), ('draw', 'pin'), ('join', 'pin'), ('Peg', 'pin'),
             ('peg', UP, ('a',), ('b',)), (None, 'pin'), (['peg'], 'pin'), (PIN, 'pin'), 'peg', THING, State(THING)]
    return rows + any_values()


class MadeTests(unittest.TestCase):
    def test_the_first_state(self):
        state = State(THING)
        self.assertEqual(state.thing, THING)
        self.assertEqual(state.lots(), [Lot(THING)])
        self.assertEqual(state.fast(), ['glue', 'held', 'pin'])
        self.assertEqual([len(state), repr(state), bool(state)], [1, 'State(1 lots)', True])
        self.assertEqual(State(thing=THING), state)

    def test_lots_in_the_order_of_their_least_names(self):
        thing = Thing(ROW)
        state = State(thing).after(('part', UP, ('b', 'd')))
        self.assertEqual(told(state), [(('a', 'c'), ()), (('b', 'd'), ())])
        state = state.after(('part', UP, ('a',)))
        self.assertEqual(told(state), [(('a',), ()), (('b', 'd'), ()), (('c',), ())])
        self.assertEqual([len(state), repr(state)], [3, 'State(3 lots)'])
        self.assertEqual([state.lot_of(name).names() for name in 'abcd'], [['a'], ['b', 'd'], ['c'], ['b', 'd']])
        self.assertEqual(state.lot_of(name='d'), Lot(thing, ['b', 'd']))

    def test_fast_pegs_of_all_lots_are_ascending(self):
        pegs = [Peg('q', 'a', 'b'), Peg('s', 'a', 'b'), Peg('p', 'c', 'd'), Peg('r', 'c', 'd')]
        state = State(Thing(ROW, pegs)).after(('part', UP, ('a', 'b')))
        self.assertEqual([lot.pegs() for lot in state.lots()], [['q', 's'], ['p', 'r']])
        self.assertEqual(state.fast(), ['p', 'q', 'r', 's'])

    def test_lot_of_an_unknown_name(self):
        for value in any_values() + ['x', 'pin', 0, ['a'], ('a',), THING, State(THING)]:
            self.assertEqual(caught(State(THING).lot_of, value), ('UnknownName', {'name': value}))

    def test_equal(self):
        one = State(THING).after(('draw', 'pin'))
        self.assertTrue(one == State(Thing(ROW[::-1], [GLUE, PIN, HELD])).after(('draw', 'pin')))
        self.assertFalse(one != one)
        for other in [State(THING), State(THING.without_peg('pin')), State(THING.moved(1, 1)).after(('draw', 'pin')),
                      one.after(('part', UP, ('a', 'd')))]:
            self.assertFalse(one == other)
            self.assertTrue(one != other)
        two = State(Thing(ROW))
        self.assertEqual(two.after(('part', UP, ('a',))).after(('part', UP, ('b',))),
                         two.after(('part', DOWN, ('b',))).after(('part', (-1, 3), ('a',))))

    def test_equal_to_nothing_of_another_class(self):
        for value in any_values() + [0, THING, Lot(THING), [Lot(THING)], told(State(THING))]:
            self.assertFalse(State(THING) == value)
            self.assertTrue(State(THING) != value)

    def test_returned_lists_are_new(self):
        state = State(PINNED).after(('draw', 'pin')).after(('part', UP, ('d',)))
        before = (told(state), state.fast(), state.offers())
        for returned in (state.lots(), state.fast(), state.offers()):
            returned.clear()
        self.assertEqual((told(state), state.fast(), state.offers()), before)


class OffersTests(unittest.TestCase):
    def test_values(self):
        thing = Thing(ROW[:2], [PIN])
        self.assertEqual(State(thing).offers(), [('draw', 'pin')])
        found = State(thing).after(('draw', 'pin')).offers()
        # b lies at the right of a, one apart: the arc in which it bars a has the ends (1, -2) and (1, 2).
        expected = [('part', direction, (name,)) for direction in [(1, 2), (-1, 2), (-1, -2), (1, -2)] for name in 'ab']
        self.assertEqual(found, expected)
        self.assertEqual(State(Thing([FRAME, INNER])).offers(), [])
        self.assertEqual(State(Thing(HOOKS)).offers(), [('part', (1, 0), ('c', 'd')), ('part', (-1, 0), ('a', 'b'))])

    def test_drawings_come_first_by_ascending_names_of_all_lots(self):
        up = [((0, 50), UP)]
        pegs = [Peg('q', 'a', 'b', up), Peg('z', 'a', 'b', up), Peg('p', 'c', 'd', up), Peg('s', 'c', 'd', up)]
        state = State(Thing(ROW, pegs)).after(('part', UP, ('a', 'b')))
        self.assertEqual(len(state), 2)
        self.assertEqual(state.offers()[:4], [('draw', 'p'), ('draw', 'q'), ('draw', 's'), ('draw', 'z')])
        self.assertEqual(state.offers(), state.offers()[:4])

    def test_against_the_words_by_chance(self):
        chance = random.Random(71)
        seen = set()
        for _ in range(50):
            state = random_state(chance, random_thing(chance, 5, 3), 3)
            offers = all_offers(state)
            self.assertEqual(state.offers(), offers)
            self.assertEqual(len(offers), len(set(offers)))
            self.assertIs(state.is_ended(), offers == [])
            seen.update((len(state), step[0]) for step in offers)
        self.assertLessEqual({(1, 'draw'), (1, 'part'), (2, 'draw'), (2, 'part'), (3, 'part')}, seen)

    def test_each_offer_can_be_taken(self):
        chance = random.Random(72)
        for _ in range(20):
            state = random_state(chance, random_thing(chance, 4, 3), 2)
            for step in state.offers():
                behind = state.after(step)
                self.assertEqual(len(behind), len(state) + (step[0] == 'part'))
                self.assertEqual(len(behind.fast()), len(state.fast()) - (step[0] == 'draw'))

    def test_if_anything_can_be_parted_some_offer_parts_the_lot(self):
        chance = random.Random(73)
        for _ in range(25):
            state = random_state(chance, random_thing(chance, 4, 2), 2)
            for lot in state.lots():
                can = any(len(sets_that_leave(lot, direction)) > 2 for direction in with_between(lot.compass()))
                parted = [step for step in state.offers() if step[0] == 'part' and step[2][0] in lot]
                self.assertIs(bool(parted), can)


class EndedTests(unittest.TestCase):
    def test_values(self):
        self.assertIs(State(Thing([FRAME, INNER])).is_ended(), True)
        self.assertIs(State(Thing(ROW[:1])).is_ended(), True)
        self.assertIs(State(Thing(ROW)).is_ended(), False)
        two = Thing(ROW[:2], [Peg('g', 'a', 'b')])
        self.assertIs(State(two).is_ended(), True)
        self.assertIs(State(Thing(ROW[:2])).after(('part', UP, ('b',))).is_ended(), True)

    def test_against_all_sets_by_chance(self):
        chance = random.Random(74)
        seen = []
        for _ in range(40):
            state = random_state(chance, random_thing(chance, 4, 2))
            ended = all(lot_is_stuck(lot) for lot in state.lots())
            self.assertIs(state.is_ended(), ended)
            seen.append((ended, len(state.thing) > 1))
        self.assertEqual(set(seen) | {(True, False)}, {(True, True), (False, True), (True, False)})


class AfterTests(unittest.TestCase):
    def test_part(self):
        state = State(PINNED).after(('part', RIGHT, ('d',)))
        self.assertEqual(told(state), [(('a', 'b', 'c'), ('held', 'pin')), (('d',), ())])
        self.assertEqual(state.after(step=('draw', 'held')).fast(), ['pin'])
        self.assertEqual(told(state.after(('draw', 'held')).after(('part', UP, ('c',)))),
                         [(('a', 'b'), ('pin',)), (('c',), ()), (('d',), ())])

    def test_pieces_of_another_lot_bar_nothing(self):
        state = State(Thing(ROW))
        self.assertEqual(caught(state.after, ('part', RIGHT, ('a',))), ('Barred', {'one': 'a', 'other': 'b'}))
        state = state.after(('part', UP, ('a', 'd'))).after(('part', LEFT, ('a',)))
        self.assertEqual(told(state), [(('a',), ()), (('b', 'c'), ()), (('d',), ())])
        self.assertEqual(caught(state.after, ('part', RIGHT, ('b',))), ('Barred', {'one': 'b', 'other': 'c'}))
        self.assertEqual(len(state.after(('part', RIGHT, ('c',)))), 4)

    def test_draw(self):
        state = State(THING).after(('draw', 'pin'))
        self.assertEqual(told(state), [(('a', 'b', 'c', 'd'), ('glue', 'held'))])
        self.assertEqual(caught(state.after, ('draw', 'pin')), ('NotFast', {'peg': 'pin'}))
        self.assertEqual(caught(state.after, ('draw', 'held')), ('Held', {'peg': 'held'}))
        self.assertEqual(caught(state.after, ('draw', 'glue')), ('Held', {'peg': 'glue'}))

    def test_states_ahead_stay_as_they_were(self):
        chance = random.Random(75)
        for _ in range(15):
            state = State(random_thing(chance, 4, 3))
            row = []
            while not state.is_ended():
                row.append((state, told(state), state.fast(), state.offers()))
                state = state.after(chance.choice(state.offers()))
            for ahead, lots, fast, offers in row:
                self.assertEqual((told(ahead), ahead.fast(), ahead.offers()), (lots, fast, offers))

    def test_against_lots_by_chance(self):
        chance = random.Random(76)
        for _ in range(30):
            state = random_state(chance, random_thing(chance, 4, 2), 2)
            direction = chance.choice(with_between(state.lots()[0].compass()))
            for names in all_sets(state.thing.names())[1:]:
                self.check_part(state, direction, names)

    def check_part(self, state, direction, names):
        lots = [lot for lot in state.lots() if set(names) & set(lot.names())]
        found = caught(state.after, ('part', direction, names))
        if len(lots) > 1 or lots[0].names() == list(names):
            self.assertEqual(found, ('NoParting', {}))
        else:
            self.assertEqual(found, caught(lots[0].parted, direction, names))
            if found is None:
                others = [lot for lot in state.lots() if lot != lots[0]]
                expected = sorted(others + list(lots[0].parted(direction, names)), key=lambda lot: lot.names()[0])
                self.assertEqual(state.after(('part', direction, names)).lots(), expected)

    def test_no_form_of_a_step(self):
        for value in wrong_steps():
            self.assertEqual(caught(State(THING).after, value), ('InvalidStep', {}), value)

    def test_part_errors_in_their_order(self):
        state = State(THING).after(('draw', 'pin')).after(('part', UP, ('a', 'd')))
        for names, expected in [
            (('a', 'x'), ('UnknownName', {'name': 'x'})),
            (('b', 'pin', 'x'), ('UnknownName', {'name': 'pin'})),
            (('a', 'b', 'c', 'd', 'e', 'z'), ('UnknownName', {'name': 'e'})),
            (('a', 'b'), ('NoParting', {})),
            (('a', 'b', 'c', 'd'), ('NoParting', {})),
            (('a', 'd'), ('NoParting', {})),
            (('a',), ('Barred', {'one': 'a', 'other': 'd'})),
            (('d',), ('Pegged', {'peg': 'glue'})),
            (('b',), ('Barred', {'one': 'b', 'other': 'c'})),
            (('c',), ('Pegged', {'peg': 'held'})),
        ]:
            self.assertEqual(caught(state.after, ('part', RIGHT, names)), expected, names)
        self.assertEqual(caught(State(Thing(ROW[:1])).after, ('part', UP, ('a',))), ('NoParting', {}))

    def test_draw_errors_in_their_order(self):
        state = State(PINNED).after(('draw', 'pin'))
        for peg, expected in [('x', ('UnknownName', {'name': 'x'})), ('a', ('UnknownName', {'name': 'a'})),
                              ('pin', ('NotFast', {'peg': 'pin'})), ('held', ('Held', {'peg': 'held'}))]:
            self.assertEqual(caught(state.after, ('draw', peg)), expected)
        # A peg that is not fast, between two lots.
        state = state.after(('part', UP, ('a',)))
        self.assertEqual(caught(state.after, ('draw', 'pin')), ('NotFast', {'peg': 'pin'}))


class BuiltTests(unittest.TestCase):
    def apart(self):
        """b and c with the peg held, and a and d alone."""
        state = State(PINNED).after(('draw', 'pin')).after(('part', UP, ('a',)))
        return state.after(('part', UP, ('d',)))

    def test_join(self):
        state = self.apart()
        self.assertEqual(told(state), [(('a',), ()), (('b', 'c'), ('held',)), (('d',), ())])
        self.assertEqual(told(state.built(('join', LEFT, ('d',), ('b', 'c')))), [(('a',), ()), (('b', 'c', 'd'), ('held',))])
        self.assertEqual(told(state.built(('join', RIGHT, ('b', 'c'), ('d',)))), [(('a',), ()), (('b', 'c', 'd'), ('held',))])
        joined = state.built(step=('join', DOWN, ('a',), ('d',)))
        self.assertEqual(told(joined), [(('a', 'd'), ()), (('b', 'c'), ('held',))])
        # A peg that is not fast does not become fast.
        self.assertEqual(told(state.built(('join', UP, ('b', 'c'), ('a',)))), [(('a', 'b', 'c'), ('held',)), (('d',), ())])

    def test_peg(self):
        state = self.apart().built(('join', UP, ('b', 'c'), ('a',)))
        self.assertEqual(state.built(('peg', 'pin')).fast(), ['held', 'pin'])
        self.assertEqual(told(state.built(('peg', 'pin')))[0], (('a', 'b', 'c'), ('held', 'pin')))

    def test_no_form_of_a_building_step(self):
        for value in wrong_building_steps():
            self.assertEqual(caught(self.apart().built, value), ('InvalidStep', {}), value)

    def test_join_errors_in_their_order(self):
        state = self.apart()
        for names, others, expected in [
            (('a', 'x'), ('y',), ('UnknownName', {'name': 'x'})),
            (('a',), ('b', 'pin'), ('UnknownName', {'name': 'pin'})),
            (('b',), ('z',), ('UnknownName', {'name': 'z'})),
            (('b',), ('d',), ('NoJoining', {})),
            (('d',), ('b',), ('NoJoining', {})),
            (('d',), ('c',), ('NoJoining', {})),
            (('a', 'b', 'c'), ('d',), ('NoJoining', {})),
            (('a',), ('b', 'c', 'd'), ('NoJoining', {})),
            (('d',), ('a', 'b'), ('NoJoining', {})),
            (('d',), ('d',), ('NoJoining', {})),
            (('b', 'c'), ('b', 'c'), ('NoJoining', {})),
            (('b', 'c'), ('d',), ('Barred', {'one': 'b', 'other': 'd'})),
            (('a',), ('b', 'c'), ('Barred', {'one': 'a', 'other': 'b'})),
        ]:
            self.assertEqual(caught(state.built, ('join', LEFT, names, others)), expected, (names, others))

    def test_peg_errors_in_their_order(self):
        state = self.apart()
        for peg, expected in [('x', ('UnknownName', {'name': 'x'})), ('b', ('UnknownName', {'name': 'b'})),
                              ('held', ('NoJoining', {})), ('pin', ('NoJoining', {}))]:
            self.assertEqual(caught(state.built, ('peg', peg)), expected)
        loose = state.after(('draw', 'held'))
        self.assertEqual(loose.built(('peg', 'held')), state)
        wide = loose.built(('join', LEFT, ('d',), ('b', 'c')))
        self.assertEqual(caught(wide.built, ('peg', 'held')), ('Held', {'peg': 'held'}))
        glued = Thing(ROW[:2], [Peg('g', 'a', 'b')])
        self.assertEqual(caught(State(glued).built, ('peg', 'g')), ('NoJoining', {}))

    def test_against_the_words_by_chance(self):
        chance = random.Random(77)
        for _ in range(40):
            state = random_state(chance, random_thing(chance, 5, 2), 6)
            for one, other in itertools.permutations(state.lots(), 2):
                direction = chance.choice(with_between((one | other).compass()))
                self.check_join(state, one, other, direction)

    def check_join(self, state, one, other, direction):
        step = ('join', direction, tuple(one.names()), tuple(other.names()))
        back = (-direction[0], -direction[1])
        both = one | other
        found = caught(state.built, step)
        if both.can_leave(back, one.names()):
            self.assertIsNone(found)
            behind = state.built(step)
            self.assertEqual(behind.lot_of(one.names()[0]), both)
            self.assertEqual(len(behind), len(state) - 1)
            self.assertEqual(behind.fast(), state.fast())
            # Parted again, it is the state ahead.
            self.assertEqual(behind.after(('part', back, tuple(one.names()))), state)
        else:
            self.assertEqual(found, caught(both.parted, back, one.names()))
            self.assertEqual(found[0], 'Barred')

    def test_steps_turned_back_by_chance(self):
        chance = random.Random(78)
        for _ in range(25):
            state = State(random_thing(chance, 4, 3))
            while not state.is_ended():
                step = chance.choice(all_steps(state, chance) or state.offers())
                behind = state.after(step)
                self.assertEqual(behind.built(self.back(state, step)), state)
                state = behind

    def back(self, state, step):
        if step[0] == 'draw':
            return ('peg', step[1])
        rest = tuple(name for name in state.lot_of(step[2][0]).names() if name not in step[2])
        return ('join', (-step[1][0], -step[1][1]), step[2], rest)


class FinerTests(unittest.TestCase):
    def test_values(self):
        first = State(PINNED)
        drawn = first.after(('draw', 'pin'))
        parted = first.after(('part', UP, ('d',)))
        for state in (first, drawn, parted):
            self.assertIs(state.is_finer(state), True)
            self.assertIs(state.is_finer(first), True)
        self.assertIs(first.is_finer(drawn), False)
        self.assertIs(first.is_finer(parted), False)
        self.assertIs(drawn.is_finer(other=parted), False)
        self.assertIs(parted.is_finer(drawn), False)
        self.assertIs(drawn.after(('part', UP, ('d',))).is_finer(parted), True)

    def test_lots_that_lie_across(self):
        first = State(Thing(ROW))
        one, other = first.after(('part', UP, ('a', 'b'))), first.after(('part', UP, ('a', 'c')))
        self.assertEqual([one.is_finer(other), other.is_finer(one)], [False, False])

    def test_against_the_words_by_chance(self):
        chance = random.Random(79)
        seen = set()
        for _ in range(80):
            thing = random_thing(chance, 4, 2)
            one, other = random_state(chance, thing), random_state(chance, thing)
            within = all(any(set(lot.names()) <= set(around.names()) for around in other.lots()) for lot in one.lots())
            finer = within and set(one.fast()) <= set(other.fast())
            self.assertIs(one.is_finer(other), finer)
            seen.add((within, finer))
        self.assertEqual(seen, {(True, True), (True, False), (False, False)})

    def test_other_things(self):
        state = State(THING)
        for value in any_values() + [0, THING, Lot(THING), State(PINNED), State(THING.moved(1, 0)), [state],
                                     State(THING.without_piece('a')), State(Thing([FRAME, INNER]))]:
            self.assertEqual(caught(state.is_finer, value), ('OtherThing', {}))
        self.assertIs(state.is_finer(State(Thing(ROW[::-1], [PIN, GLUE, HELD]))), True)


if __name__ == '__main__':
    unittest.main()
