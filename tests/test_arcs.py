import itertools
import random
import unittest

from reference import arc_has, pointing, turn, with_between
from samples import any_values, caught
from stucklots.arcs import Arc
from stucklots.pegs import Peg

EIGHT = [(1, 0), (1, 1), (0, 1), (-1, 1), (-1, 0), (-1, -1), (0, -1), (1, -1)]
PROBES = with_between(EIGHT)
# Between these two directions no direction has numbers up to 999.
LOW, HIGH = (999, 1), (998, 1)


def all_arcs():
    return [Arc.whole()] + [Arc(start, stop) for start in EIGHT for stop in EIGHT]


def members(arc, probes=PROBES):
    return {direction for direction in probes if direction in arc}


def unequal_values():
    return any_values() + [0, 1, 'Arc(whole)', (1, 0), ((1, 0), (0, 1)), [], Peg('a', 'b', 'c')]


class MadeTests(unittest.TestCase):
    def test_two_ends(self):
        arc = Arc((0, -1), (0, 1))
        self.assertEqual([arc.start, arc.stop, arc.ends(), arc.is_whole], [(0, -1), (0, 1), [(0, -1), (0, 1)], False])
        self.assertEqual([len(arc), repr(arc)], [2, 'Arc((0, -1) to (0, 1))'])
        self.assertIs(bool(arc), True)

    def test_one_end(self):
        arc = Arc((0, 1), (0, 1))
        self.assertEqual([arc.start, arc.stop, arc.ends(), arc.is_whole], [(0, 1), (0, 1), [(0, 1)], False])
        self.assertEqual([len(arc), repr(arc)], [1, 'Arc((0, 1) to (0, 1))'])
        self.assertIs(bool(arc), True)

    def test_whole(self):
        arc = Arc.whole()
        self.assertEqual([arc.start, arc.stop, arc.ends(), arc.is_whole], [None, None, [], True])
        self.assertEqual([len(arc), repr(arc)], [0, 'Arc(whole)'])
        self.assertIs(bool(arc), True)
        self.assertIsInstance(arc, Arc)
        self.assertEqual(repr(Arc((1, 0), (-999, 998)).whole()), 'Arc(whole)')

    def test_by_name(self):
        self.assertEqual(Arc(stop=(1, 0), start=(0, 1)).ends(), [(0, 1), (1, 0)])
        self.assertIs(Arc((1, 0), (0, 1)).covers(other=Arc((1, 0), (0, 1))), True)

    def test_returned_lists_are_new(self):
        for arc in all_arcs():
            before = arc.ends()
            arc.ends().append((5, 1))
            arc.ends().clear()
            self.assertEqual((arc.ends(), len(arc)), (before, len(before)))

    def test_equal(self):
        arcs = all_arcs()
        for one, other in itertools.product(range(len(arcs)), repeat=2):
            self.assertIs(arcs[one] == arcs[other], one == other)
            self.assertIs(arcs[one] != arcs[other], one != other)
        self.assertTrue(Arc.whole() == Arc.whole())
        self.assertTrue(Arc((1, 0), (0, 1)) == Arc((1, 0), (0, 1)))

    def test_equal_to_nothing_of_another_class(self):
        for arc in (Arc.whole(), Arc((1, 0), (1, 0)), Arc((1, 0), (0, 1))):
            for value in unequal_values():
                self.assertFalse(arc == value)
                self.assertTrue(arc != value)

    def test_the_first_wrong_end(self):
        wrong = any_values() + [0, 1, 'whole', (0, 0), (2, 0), (2, 4), (1000, 1), (1, -1000), (1, 0, 0), [1, 0],
                                (True, 0), (1, False), Arc.whole(), ((1, 0), (0, 1))]
        for value in wrong:
            self.assertEqual(caught(Arc, value, (1, 0)), ('InvalidDirection', {'value': value}))
            self.assertEqual(caught(Arc, (1, 0), value), ('InvalidDirection', {'value': value}))
            self.assertEqual(caught(Arc, value, 'other'), ('InvalidDirection', {'value': value}))
        self.assertEqual(caught(Arc, None, None), ('InvalidDirection', {'value': None}))
        self.assertEqual(caught(Arc, (2, 2), (3, 3)), ('InvalidDirection', {'value': (2, 2)}))


class InTests(unittest.TestCase):
    def test_all_arcs_of_eight_directions(self):
        for arc in all_arcs():
            for direction in PROBES:
                self.assertIs(direction in arc, arc_has(arc.start, arc.stop, direction), (arc, direction))

    def test_the_example(self):
        arc = Arc((0, -1), (0, 1))
        for u, v in itertools.product(range(-3, 4), repeat=2):
            if (u, v) != (0, 0) and pointing((u, v)) == (u, v):
                self.assertIs((u, v) in arc, u > 0)

    def test_at_the_ends_and_opposite_to_them(self):
        for u, v in EIGHT:
            quarter = Arc((u, v), (-v, u))
            half = Arc((u, v), (-u, -v))
            most = Arc((u, v), (v, -u))
            for arc in (quarter, half, most):
                self.assertNotIn(arc.start, arc)
                self.assertNotIn(arc.stop, arc)
            self.assertEqual([(-u, -v) in quarter, (v, -u) in quarter], [False, False])
            self.assertEqual([(-u, -v) in most, (-v, u) in most], [True, True])
            self.assertEqual([(-v, u) in half, (v, -u) in half], [True, False])
            self.assertEqual([(u, v) in Arc((u, v), (u, v)), (-u, -v) in Arc((u, v), (u, v))], [False, True])

    def test_close_to_the_ends(self):
        arc = Arc((1, 0), (0, 1))
        self.assertEqual([(999, 1) in arc, (1, 999) in arc, (999, -1) in arc, (-1, 999) in arc], [True, True, False, False])
        self.assertEqual(members(Arc((998, 997), (999, 998))), set())
        self.assertEqual(members(Arc((999, 998), (998, 997))), set(PROBES))

    def test_beyond_the_bounds(self):
        for arc in all_arcs():
            for direction in [(1000, 1), (1, 1000), (-1000, 999), (1997, 2), (-1, -1000)]:
                self.assertIs(direction in arc, False)

    def test_any_value(self):
        for arc in (Arc.whole(), Arc((1, 0), (1, 0)), Arc((0, -1), (0, 1))):
            for value in any_values() + [0, 1, (2, 0), (2, 2), (0, 0), [2, 1], (True, 0), (2, True), (2, 1, 0), arc]:
                self.assertIs(value in arc, False, value)
                self.assertIs(value not in arc, True, value)

    def test_by_chance(self):
        chance = random.Random(11)
        for _ in range(3000):
            start, stop, direction = [pointing((chance.randint(-9, 9) * 100 + chance.randint(-99, 99),
                                                chance.randint(-9, 9) * 100 + 1)) for _ in range(3)]
            self.assertIs(direction in Arc(start, stop), arc_has(start, stop, direction), (start, stop, direction))


class TurnedTests(unittest.TestCase):
    def test_turned(self):
        self.assertEqual(Arc((1, 0), (2, 1)).turned(), Arc((-1, 0), (-2, -1)))
        self.assertEqual(Arc((1, 2), (1, 2)).turned(), Arc((-1, -2), (-1, -2)))
        self.assertEqual(Arc.whole().turned(), Arc.whole())

    def test_each_direction_turned(self):
        for arc in all_arcs():
            self.assertEqual(members(arc.turned()), {(-u, -v) for u, v in members(arc)})
            self.assertEqual(arc.turned().turned(), arc)
            self.assertEqual(len(arc.turned()), len(arc))


class TwoArcsTests(unittest.TestCase):
    def check(self, one, other, probes=PROBES):
        """All ends are among the probes, with one between each two: so these tell two arcs apart."""
        first, second = members(one, probes), members(other, probes)
        self.assertIs(one.covers(other), first >= second, (one, other))
        if first & second:
            self.assertEqual(members(one | other, probes), first | second, (one, other))
            self.assertLessEqual(set((one | other).ends()), set(one.ends() + other.ends()))
        else:
            self.assertEqual(caught(lambda: one | other), ('NoJoining', {}), (one, other))

    def test_all_pairs_of_arcs_of_eight_directions(self):
        for one, other in itertools.product(all_arcs(), repeat=2):
            self.check(one, other)

    def test_equal_calls(self):
        for one, other in itertools.product(all_arcs()[:30], repeat=2):
            if caught(lambda: one | other) is None:
                self.assertEqual(one | other, one | other)
                self.assertEqual(one | other, other | one)

    def test_values(self):
        right, up, left = Arc((0, -1), (0, 1)), Arc((1, 0), (-1, 0)), Arc((0, 1), (0, -1))
        self.assertEqual(right | up, Arc((0, -1), (-1, 0)))
        self.assertEqual(up | left, Arc((1, 0), (0, -1)))
        self.assertEqual(right | up | left, Arc((0, -1), (0, -1)))
        self.assertEqual((right | up) | left | Arc((-1, -1), (1, -1)), Arc.whole())
        self.assertEqual(caught(lambda: right | left), ('NoJoining', {}))
        self.assertEqual(Arc((0, 1), (0, 1)) | Arc((1, 0), (1, 0)), Arc.whole())
        self.assertEqual(Arc((0, 1), (0, 1)) | Arc((0, 1), (0, 1)), Arc((0, 1), (0, 1)))
        self.assertEqual(Arc((0, 1), (0, 1)) | left, Arc((0, 1), (0, 1)))
        self.assertEqual(Arc.whole() | left, Arc.whole())
        self.assertEqual(Arc((0, 1), (-1, 0)) | Arc((0, 1), (-1, 1)), Arc((0, 1), (-1, 0)))

    def test_overlapping_at_both_sides(self):
        self.assertEqual(Arc((1, 0), (0, -1)) | Arc((-1, 0), (0, 1)), Arc.whole())
        self.assertEqual(Arc((1, 0), (0, -1)) | Arc((-1, 0), (1, 0)), Arc((1, 0), (1, 0)))
        self.assertEqual(Arc((1, 0), (0, -1)) | Arc((0, -1), (0, 1)), Arc((0, -1), (0, -1)))
        self.assertEqual(caught(lambda: Arc((1, 0), (0, -1)) | Arc((0, -1), (1, 0))), ('NoJoining', {}))

    def test_only_directions_beyond_the_bounds_in_common(self):
        low, high = Arc((1, 0), HIGH), Arc(LOW, (0, 1))
        self.assertEqual([members(low, [LOW]), members(high, [HIGH])], [{LOW}, {HIGH}])
        self.assertEqual(low | high, Arc((1, 0), (0, 1)))
        self.assertEqual(high | low, Arc((1, 0), (0, 1)))
        self.assertEqual(caught(lambda: Arc((1, 0), LOW) | high), ('NoJoining', {}))
        self.assertEqual(caught(lambda: low | Arc(HIGH, (0, 1))), ('NoJoining', {}))

    def test_an_arc_that_has_only_directions_beyond_the_bounds(self):
        none = Arc(LOW, HIGH)
        self.assertEqual(members(none, PROBES + [LOW, HIGH, (1997, 2)]), set())
        self.assertIs(none.covers(none), True)
        self.assertEqual(none | none, none)
        self.assertIs(Arc((1, 0), (0, 1)).covers(none), True)
        self.assertIs(none.covers(Arc((1, 0), (0, 1))), False)
        self.assertIs(Arc(HIGH, LOW).covers(none), False)
        self.assertIs(none.covers(Arc(HIGH, LOW)), False)
        self.assertEqual(caught(lambda: none | Arc(HIGH, LOW)), ('NoJoining', {}))
        self.assertEqual(none | Arc(LOW, (0, 1)), Arc(LOW, (0, 1)))
        # All but one direction are more than an arc that lacks what is beyond the bounds.
        self.assertIs(Arc(HIGH, LOW).covers(Arc(LOW, LOW)), False)
        self.assertEqual(Arc(HIGH, LOW) | Arc(LOW, LOW), Arc(LOW, LOW))

    def test_by_chance(self):
        chance = random.Random(12)
        for _ in range(1500):
            ends = [pointing((chance.randint(-30, 30), chance.choice([-30, -7, -1, 1, 2, 30]))) for _ in range(4)]
            ends = [chance.choice(ends) for _ in range(4)]
            self.check(Arc(*ends[:2]), Arc(*ends[2:]), with_between(ends))

    def test_values_that_are_no_arcs(self):
        for arc in (Arc.whole(), Arc((1, 0), (1, 0)), Arc((1, 0), (0, 1))):
            for value in unequal_values():
                self.assertEqual(caught(lambda: arc | value), ('NoJoining', {}))

    def test_arcs_do_not_change(self):
        arcs = all_arcs()
        told = [repr(arc) for arc in arcs]
        for one, other in zip(arcs, arcs[1:]):
            one.covers(other)
            one.turned()
            caught(lambda: one | other)
        self.assertEqual([repr(arc) for arc in arcs], told)


class ReferenceTests(unittest.TestCase):
    def test_the_probes_are_in_round_order(self):
        self.assertEqual(len(PROBES), 16)
        self.assertEqual(PROBES, sorted(PROBES, key=turn))


if __name__ == '__main__':
    unittest.main()
