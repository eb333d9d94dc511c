"""The facts of the document about lots, rows, states and clumps, over things by chance."""

import itertools
import random
import unittest

from reference import with_between
from samples import box, random_lot, random_peg, random_pieces, random_thing
from stucklots.clumps import clumps, ended_state
from stucklots.lots import Lot
from stucklots.parts import overlap
from stucklots.pegs import Peg
from stucklots.pieces import Piece
from stucklots.states import State
from stucklots.things import Thing


def drawn_things(seed, many, most=5, pegs=3):
    chance = random.Random(seed)
    return chance, [random_thing(chance, most, pegs) for _ in range(many)]


def convex_thing(chance, most):
    """A thing of pieces with one part each."""
    pieces = []
    for piece in random_pieces(chance, most):
        pieces += [Piece('abcdefghi'[len(pieces) + at], [part]) for at, part in enumerate(piece.parts()[:9 - len(pieces)])]
    return Thing(pieces)


def some_directions(chance, lot, many=4):
    directions = with_between(lot.compass())
    return chance.sample(directions, min(many, len(directions)))


def ends_by_chance(chance, thing):
    """States from the first one to an ended one, over any sets that can leave in any directions."""
    state = State(thing)
    states = [state]
    while not state.is_ended():
        steps = [step for step in state.offers() if step[0] == 'draw' or chance.random() < 0.2] or state.offers()[:1]
        for lot in state.lots():
            direction = chance.choice(with_between(lot.compass()))
            steps += [('part', direction, names) for names in lot.leaving(direction)]
        state = state.after(chance.choice(steps))
        states.append(state)
    return states


def lies_within(clump, others):
    """Whether the names and the pegs of a clump are among those of one of some others."""
    return any(set(clump[0]) <= set(names) and set(clump[1]) <= set(pegs) for names, pegs in others)


class LotFacts(unittest.TestCase):
    def test_sets_that_can_leave_together_and_in_common(self):
        chance, things = drawn_things(101, 30, 4)
        for thing in things:
            lot = random_lot(chance, thing)
            for u, v in some_directions(chance, lot):
                sets = [(), *lot.leaving((u, v)), tuple(lot.names())]
                for one, other in itertools.combinations(sets, 2):
                    self.assertTrue(lot.can_leave((u, v), one + other))
                    self.assertTrue(lot.can_leave((u, v), [name for name in one if name in other]))
                for names in sets:
                    self.assertTrue(lot.can_leave((-u, -v), [name for name in lot.names() if name not in names]))

    def test_the_least_set_is_the_least_one(self):
        chance, things = drawn_things(102, 30, 4)
        for thing in things:
            lot = random_lot(chance, thing)
            for direction in some_directions(chance, lot):
                for name in lot.names():
                    least = lot.least(direction, name)
                    self.assertTrue(lot.can_leave(direction, least))
                    for names in lot.leaving(direction):
                        self.assertTrue(name not in names or set(least) <= set(names))

    def test_what_can_leave_can_leave_in_a_direction_of_the_compass(self):
        chance, things = drawn_things(103, 20, 4)
        for thing in things:
            lot = random_lot(chance, thing)
            can = {names for direction in lot.compass() for names in lot.leaving(direction)}
            for direction in with_between(lot.compass()):
                self.assertLessEqual(set(lot.leaving(direction)), can)

    def test_each_beginning_of_a_row_can_leave(self):
        chance, things = drawn_things(104, 30, 6)
        for thing in things:
            lot = random_lot(chance, thing)
            for direction in some_directions(chance, lot):
                row = lot.row_at(direction, chance.randrange(lot.row_count(direction)))
                self.assertEqual(sorted(row), lot.groups(direction))
                for many in range(len(row) + 1):
                    self.assertTrue(lot.can_leave(direction, [name for group in row[:many] for name in group]))

    def test_each_piece_is_in_exactly_one_group(self):
        chance, things = drawn_things(105, 30, 6)
        for thing in things:
            lot = random_lot(chance, thing)
            for direction in some_directions(chance, lot):
                groups = lot.groups(direction)
                self.assertEqual(sorted(name for group in groups for name in group), lot.names())
                for group in groups:
                    self.assertEqual(len({lot.least(direction, name) for name in group}), 1)

    def test_convex_pieces_without_pegs_make_groups_of_one(self):
        chance = random.Random(106)
        for _ in range(20):
            lot = Lot(convex_thing(chance, 4))
            for direction in some_directions(chance, lot, 8):
                self.assertEqual(lot.groups(direction), [(name,) for name in lot.names()])

    def test_pieces_of_a_clump_are_in_one_group_of_their_lot(self):
        chance, things = drawn_things(107, 15)
        for thing in things:
            found = clumps(thing)
            for state in ends_by_chance(chance, thing):
                for lot in state.lots():
                    for direction in some_directions(chance, lot, 3):
                        for names, _ in found:
                            within = [group for group in lot.groups(direction) if set(group) & set(names)]
                            self.assertTrue(names[0] not in lot or [set(names) <= set(group) for group in within] == [True])


class ClumpFacts(unittest.TestCase):
    def test_all_ended_states_are_the_same(self):
        chance, things = drawn_things(108, 25)
        for thing in things:
            ended = ended_state(thing)
            for _ in range(4):
                states = ends_by_chance(chance, thing)
                self.assertEqual(states[-1], ended)
                for one, other in zip(states, states[1:]):
                    # Each step makes more lots or fewer fast pegs.
                    self.assertEqual((len(other) - len(one)) + (len(one.fast()) - len(other.fast())), 1)
                for state in states:
                    self.assertTrue(ended.is_finer(state))
                    self.assertTrue(state.is_finer(states[0]))

    def test_stuck_lots_stay_together(self):
        chance, things = drawn_things(109, 40, 5, 4)
        seen = 0
        for thing in things:
            lots = [Lot(thing, names) for many in (2, 3, 4) for names in itertools.combinations(thing.names(), many)]
            lots += [random_lot(chance, thing) for _ in range(6)]
            stuck = [lot for lot in lots if lot.is_stuck()]
            for state in ends_by_chance(chance, thing):
                for lot in stuck:
                    self.assertTrue(lot.within(state.lot_of(lot.names()[0])))
            for one, other in itertools.combinations(stuck, 2):
                if set(one.names()) & set(other.names()):
                    self.assertTrue((one | other).is_stuck())
                    seen += one != other
        self.assertGreater(seen, 20)


class ChangeFacts(unittest.TestCase):
    def test_pieces_put_on_and_taken_out(self):
        chance, things = drawn_things(110, 40, 6)
        for thing in things:
            if len(thing) > 1:
                fewer = thing.without_piece(chance.choice(thing.names()))
                for clump in clumps(fewer):
                    self.assertTrue(lies_within(clump, clumps(thing)))

    def test_a_piece_put_on(self):
        chance, things = drawn_things(111, 30, 4)
        for thing in things:
            piece = Piece('z', [box(chance.randint(-2, 14), chance.randint(-2, 14))])
            if not any(overlap(piece.parts()[0], part) for other in thing.pieces() for part in other.parts()):
                for clump in clumps(thing):
                    self.assertTrue(lies_within(clump, clumps(thing.with_piece(piece))))

    def test_pegs_put_on_and_taken_out(self):
        chance, things = drawn_things(112, 40, 5)
        for thing in things:
            if len(thing) > 1:
                more = thing.with_peg(random_peg(chance, 'more', thing.names()))
                for clump in clumps(thing):
                    self.assertTrue(lies_within(clump, clumps(more)))

    def test_one_way_more(self):
        chance, things = drawn_things(113, 50, 5)
        for thing in things:
            for peg in thing.pegs():
                if len(peg) < 3:
                    way = ((chance.randint(-2, 16), chance.randint(-2, 16)), chance.choice([(1, 0), (0, 1), (-1, -1)]))
                    for clump in clumps(thing.with_way(peg.name, way)):
                        self.assertTrue(lies_within(clump, clumps(thing)))

    def test_glue_between_two_pieces_of_one_clump(self):
        _, things = drawn_things(114, 60, 5)
        seen = 0
        for thing in things:
            found = clumps(thing)
            for at, (names, pegs) in enumerate(found):
                if len(names) > 1:
                    glued = thing.with_peg(Peg('glue', names[0], names[-1]))
                    expected = found[:at] + [(names, tuple(sorted((*pegs, 'glue'))))] + found[at + 1:]
                    self.assertEqual(clumps(glued), expected)
                    seen += 1
        self.assertGreater(seen, 10)

    def test_two_sides_of_a_line(self):
        chance, things = drawn_things(115, 20, 4)
        for thing in things:
            other = random_thing(chance, 4, 0).moved(chance.choice([-100, 100]), chance.randint(-9, 9))
            renamed = [Piece(piece.name * 2, piece.parts()) for piece in other.pieces()]
            names = [piece.name for piece in renamed]
            pegs = [Peg('far', *names[:2])] if len(names) > 1 else []
            both = Thing(thing.pieces() + renamed, thing.pegs() + pegs)
            self.assertEqual(clumps(both), sorted(clumps(thing) + clumps(Thing(renamed, pegs))))

    def test_moved_turned_and_mirrored(self):
        _, things = drawn_things(116, 25)
        for thing in things:
            for other in (thing.moved(-50, 40), thing.turned(), thing.turned(-2), thing.mirrored()):
                self.assertEqual(clumps(other), clumps(thing))


if __name__ == '__main__':
    unittest.main()
