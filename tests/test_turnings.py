import random
import unittest

from reference import with_between
from reference_turnings import Slow
from samples import DOWN, FRAME, GROOVE, HOOKS, INNER, LEFT, PEGGED_ROW, PIN, RIGHT, ROW, TONGUE, UP
from samples import any_values, box, caught, random_thing
from stucklots.arcs import Arc
from stucklots.clumps import clumps, ended_state
from stucklots.compass import compass
from stucklots.instructions import turnings
from stucklots.pegs import Peg
from stucklots.pieces import Piece
from stucklots.states import State
from stucklots.things import Thing
from stucklots.turnings import fewest_turnings, finest_state, turning_row

HOOKED = Thing(HOOKS)
PINNED = Thing(HOOKS, [Peg('pin', 'b', 'a', [((3, 8), UP)])])
CUP = Thing([GROOVE, TONGUE])
SHUT = Thing([FRAME, INNER])
WRONG_DIRECTIONS = any_values() + [0, 'up', (0, 0), (2, 0), (1000, 1), [1, 0], (True, 0), (1, 0, 0), Arc.whole(), HOOKED]


def told(state):
    return [lot.told() for lot in state.lots()]


def drawn(seed, many, most=5, pegs=3):
    chance = random.Random(seed)
    return [(chance, random_thing(chance, most, pegs)) for _ in range(many)]


def some_directions(chance, thing, most=4):
    """A list of directions of the compass and between, in which a direction may stand several times."""
    directions = with_between(compass(thing))
    return [chance.choice(directions) for _ in range(chance.randint(0, most))]


class FinestTests(unittest.TestCase):
    def test_no_direction(self):
        self.assertEqual(finest_state(HOOKED, []), State(HOOKED))
        self.assertEqual(finest_state(directions=(), thing=PINNED), State(PINNED))
        self.assertEqual(finest_state(PEGGED_ROW, []), State(PEGGED_ROW).after(('draw', 'pin')))

    def test_values(self):
        self.assertEqual(told(finest_state(HOOKED, [RIGHT])), [(('a', 'b'), ()), (('c', 'd'), ())])
        self.assertEqual(told(finest_state(HOOKED, [UP])), [(('a', 'b', 'c', 'd'), ())])
        self.assertEqual(told(finest_state(HOOKED, (RIGHT, UP))), [((name,), ()) for name in 'abcd'])
        self.assertEqual(told(finest_state(HOOKED, [UP, RIGHT])), [(('a', 'b'), ()), (('c', 'd'), ())])
        self.assertEqual(told(finest_state(CUP, [UP])), [(('g',), ()), (('t',), ())])
        self.assertEqual(told(finest_state(CUP, [RIGHT])), [(('g', 't'), ())])
        self.assertEqual(told(finest_state(SHUT, [RIGHT, UP, (2, 1)])), [(('f', 'i'), ())])
        self.assertIsInstance(finest_state(CUP, [UP]), State)

    def test_pegs_are_drawn_between_and_the_direction_is_gone_again(self):
        # The pin is free as soon as c and d have gone; then b leaves a in the same direction.
        self.assertEqual(told(finest_state(PINNED, [RIGHT])), [(('a', 'b'), ()), (('c', 'd'), ())])
        self.assertEqual(told(finest_state(PINNED, [RIGHT, UP])), [((name,), ()) for name in 'abcd'])
        late = Thing(ROW, [Peg('late', 'a', 'b', [((5, 1), RIGHT)]), Peg('last', 'a', 'c', [((4, 2), UP)])])
        self.assertEqual(told(finest_state(late, [RIGHT])), [((name,), ()) for name in 'abcd'])
        self.assertEqual(told(finest_state(late.without_peg('last'), [(0, -1)])), [((name,), ()) for name in 'abcd'])
        held = Thing(ROW, [Peg('late', 'a', 'b', [((5, 1), RIGHT)]), Peg('glue', 'b', 'c')])
        self.assertEqual(told(finest_state(held, [RIGHT])), [(('a', 'b', 'c'), ('glue', 'late')), (('d',), ())])

    def test_doubled_directions_and_those_turned_by_half(self):
        for chance, thing in drawn(401, 30):
            directions = some_directions(chance, thing)
            found = finest_state(thing, directions)
            self.assertEqual(finest_state(thing, [direction for direction in directions for _ in range(2)]), found)
            self.assertEqual(finest_state(thing, [chance.choice([(u, v), (-u, -v)]) for u, v in directions]), found)

    def test_by_the_words(self):
        sizes = set()
        for chance, thing in drawn(402, 60, 5, 4):
            slow = Slow(thing)
            for _ in range(4):
                directions = some_directions(chance, thing)
                self.assertEqual(told(finest_state(thing, directions)), slow.finest(directions))
                sizes.add((len(directions), len(slow.finest(directions))))
        self.assertGreater(len(sizes), 12)

    def test_errors(self):
        for value in WRONG_DIRECTIONS:
            self.assertEqual(caught(finest_state, HOOKED, [value]), ('InvalidDirection', {'value': value}))
            self.assertEqual(caught(finest_state, HOOKED, (UP, RIGHT, value, None)), ('InvalidDirection', {'value': value}))

    def test_lists_are_not_changed(self):
        directions = [RIGHT, UP]
        state = finest_state(HOOKED, directions)
        before = told(state)
        self.assertEqual(directions, [RIGHT, UP])
        directions.clear()
        state.lots().clear()
        self.assertEqual(told(state), before)


class RowTests(unittest.TestCase):
    def test_values(self):
        self.assertEqual([turning_row(HOOKED), fewest_turnings(HOOKED)], [[RIGHT, UP], 2])
        self.assertEqual([turning_row(thing=CUP), fewest_turnings(thing=CUP)], [[UP], 1])
        self.assertEqual([turning_row(SHUT), fewest_turnings(SHUT)], [[], 0])
        self.assertEqual([turning_row(Thing([TONGUE])), fewest_turnings(Thing([TONGUE]))], [[], 0])
        # Drawing a peg is no turning.
        glued = Thing(ROW[:2], [Peg('glue', 'a', 'b'), PIN])
        self.assertEqual([turning_row(glued), clumps(glued)], [[], [(('a', 'b'), ('glue',))]])
        self.assertEqual([turning_row(PINNED), fewest_turnings(PINNED)], [[RIGHT, UP], 2])

    def test_the_first_direction_of_several_that_serve(self):
        self.assertEqual(turning_row(Thing(ROW)), [compass(Thing(ROW))[0]])
        self.assertEqual(turning_row(Thing([FRAME, INNER, TONGUE.moved(20, 20)]))[0],
                         compass(Thing([FRAME, INNER, TONGUE.moved(20, 20)]))[0])

    def test_items_in_round_order(self):
        turned = [HOOKED.turned(quarters) for quarters in range(4)]
        self.assertEqual([turning_row(thing) for thing in turned], [[RIGHT, UP], [UP, RIGHT], [RIGHT, UP], [UP, RIGHT]])
        self.assertEqual(turning_row(HOOKED.mirrored()), [RIGHT, UP])
        self.assertEqual([LEFT in row or DOWN in row for row in map(turning_row, turned)], [False] * 4)

    def test_against_all_lists_of_directions(self):
        lengths = []
        chance = random.Random(404)
        things = [thing for _, thing in drawn(403, 60, 5, 3)] + [two_cups(chance) for _ in range(12)]
        for thing in things + [thing.turned(chance.randint(0, 3)) for thing in (HOOKED, PINNED, HOOKED.mirrored())]:
            row = Slow(thing).first_row()
            self.assertEqual(turning_row(thing), row)
            self.assertEqual(fewest_turnings(thing), len(row))
            lengths.append(len(row))
        for many in range(3):
            self.assertGreater(lengths.count(many), 7)

    def test_three_turnings(self):
        thing = nested_drawers()
        self.assertEqual(fewest_turnings(thing), 3)
        self.assertEqual(turning_row(thing), Slow(thing).first_row())

    def test_many_pieces(self):
        row = [Piece('abcdefghi'[at], [box(3 * at, at * at % 7)]) for at in range(9)]
        self.assertEqual(fewest_turnings(Thing(row)), 1)

    def test_returned_lists_are_new(self):
        turning_row(HOOKED).clear()
        self.assertEqual(turning_row(HOOKED), [RIGHT, UP])


class FactTests(unittest.TestCase):
    def test_the_finest_state_is_reached_with_as_many_turnings(self):
        for chance, thing in drawn(405, 40):
            directions = some_directions(chance, thing)
            steps = steps_in(thing, directions)
            state = State(thing)
            for step in steps:
                state = state.after(step)
            self.assertEqual(state, finest_state(thing, directions))
            self.assertLessEqual(turnings(steps), len(directions))

    def test_it_is_finer_than_all_that_these_directions_lead_to(self):
        parted = 0
        for chance, thing in drawn(406, 40):
            directions = some_directions(chance, thing)
            finest = finest_state(thing, directions)
            for _ in range(5):
                state = State(thing)
                for direction in directions:
                    for _ in range(chance.randint(0, 4)):
                        steps = [step for step in state.offers() if step[0] == 'draw']
                        steps += [('part', direction, names) for lot in state.lots() for names in lot.leaving(direction)]
                        state = state.after(chance.choice(steps)) if steps else state
                self.assertTrue(finest.is_finer(state))
                parted += len(state) > 1
        self.assertGreater(parted, 40)

    def test_fewest_turnings_end(self):
        for _, thing in drawn(407, 40, 6, 3):
            row = turning_row(thing)
            self.assertEqual(finest_state(thing, row), ended_state(thing))
            self.assertEqual([direction for direction in row if direction not in compass(thing)], [])
            for at in range(len(row)):
                self.assertFalse(finest_state(thing, row[:at] + row[at + 1:]).is_ended())

    def test_more_directions_are_finer(self):
        for chance, thing in drawn(408, 30):
            directions = some_directions(chance, thing)
            at = chance.randint(0, len(directions))
            more = directions[:at] + some_directions(chance, thing) + directions[at:]
            self.assertTrue(finest_state(thing, more).is_finer(finest_state(thing, directions)))
            self.assertTrue(ended_state(thing).is_finer(finest_state(thing, more)))


def two_cups(chance):
    """Two tongues in grooves that are open in directions by chance, with a peg between both."""
    pieces = []
    for place in range(2):
        a, b, c, d = chance.choice([(1, 0, 0, 1), (0, -1, 1, 0), (1, 1, 0, 1), (2, -1, 1, 2), (1, -2, 0, 1), (1, 0, 2, 1)])
        for piece in (GROOVE, TONGUE):
            parts = [tuple((a * x + b * y + 40 * place, c * x + d * y) for x, y in part) for part in piece.parts()]
            pieces.append(Piece(piece.name + 'ab'[place], parts))
    point = (chance.randint(-10, 60), chance.randint(-10, 20))
    return Thing(pieces, [Peg('p', 'ga', chance.choice(['ta', 'gb']), [(point, chance.choice([UP, LEFT]))])])


def nested_drawers():
    """Hooks that are held in a box: only when they have left it upwards can they be taken apart to the right, and then up."""
    outer = Piece('o', [((-2, -2), (20, -2), (20, 0), (-2, 0)), ((-2, 0), (0, 0), (0, 12), (-2, 12)),
                        ((18, 0), (20, 0), (20, 12), (18, 12))])
    return Thing([*HOOKS, outer])


def steps_in(thing, directions):
    """Steps to the finest state: rows of groups in each direction, and all drawings between."""
    state, steps = State(thing), []

    def take(step):
        nonlocal state
        state = state.after(step)
        steps.append(step)

    def draw_all():
        while state.offers()[:1] and state.offers()[0][0] == 'draw':
            take(state.offers()[0])

    draw_all()
    for direction in directions:
        changed = True
        while changed:
            changed = False
            for lot in state.lots():
                for group in lot.row_at(direction, 0)[:-1]:
                    take(('part', direction, group))
                    changed = True
            draw_all()
    return steps


if __name__ == '__main__':
    unittest.main()
