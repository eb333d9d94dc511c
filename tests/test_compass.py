import itertools
import random
import unittest

from reference import bars_piece, turn, with_between
from samples import FRAME, GROOVE, HOOKS, INNER, TONGUE, any_values, box, caught, random_thing
from stucklots.arcs import Arc
from stucklots.bars import arc_of, bars
from stucklots.compass import barred_by, compass, stands_for, web
from stucklots.pegs import Peg
from stucklots.pieces import Piece
from stucklots.things import Thing

# Three squares: b at the right edge of a, c on top of b, at a corner of a.
SQUARES = Thing([Piece('a', [box(0, 0)]), Piece('b', [box(2, 0)]), Piece('c', [box(2, 2)])])
HOOKED = Thing(HOOKS)
FRAMED = Thing([FRAME, INNER])
WRONG_DIRECTIONS = any_values() + [0, (0, 0), (2, 0), (1000, 1), [1, 0], (True, 0), (1, 0, 0), Arc.whole(), SQUARES]
WRONG_NAMES = any_values() + [0, 'd', 'pin', ['a'], ('a',), {'a': 1}, SQUARES, TONGUE, Arc.whole()]


def ends_of(thing, names):
    pairs = itertools.permutations([thing.piece(name) for name in sorted(set(names))], 2)
    return {end for one, other in pairs for end in arc_of(one, other).ends()}


def some_names(chance, thing):
    """Some names of pieces, in any order, some of them several times."""
    names = [chance.choice(thing.names()) for _ in range(chance.randint(1, len(thing)))]
    return names + names[:1]


def drawn_things(seed, many):
    chance = random.Random(seed)
    return [random_thing(chance, 5, 1) for _ in range(many)]


class CompassTests(unittest.TestCase):
    def test_values(self):
        self.assertEqual(compass(SQUARES), [(1, 0), (0, 1), (-1, 0), (0, -1)])
        self.assertEqual(compass(SQUARES, ['a', 'b']), [(0, 1), (0, -1)])
        self.assertEqual(compass(SQUARES, ['c', 'b']), [(1, 0), (-1, 0)])
        self.assertEqual(compass(names=('a', 'c'), thing=SQUARES), [(1, 0), (0, 1), (-1, 0), (0, -1)])
        self.assertEqual(compass(Thing([GROOVE, TONGUE])), [(0, 1), (0, -1)])
        self.assertEqual(compass(Thing([Piece('a', [box(0, 0)]), Piece('b', [box(4, 1)])])),
                         [(2, 3), (-2, 1), (-2, -3), (2, -1)])

    def test_no_end_at_all(self):
        self.assertEqual(compass(FRAMED), [(1, 0)])
        self.assertEqual(compass(Thing([TONGUE])), [(1, 0)])
        for name in 'abc':
            self.assertEqual(compass(SQUARES, [name]), [(1, 0)])
            self.assertEqual(compass(SQUARES, [name, name]), [(1, 0)])

    def test_names_that_stand_several_times_in_any_order(self):
        self.assertEqual(compass(SQUARES, ['b', 'a', 'b', 'b', 'a']), [(0, 1), (0, -1)])
        for names in itertools.permutations('abc'):
            self.assertEqual(compass(SQUARES, list(names) * 2), compass(SQUARES, None))

    def test_all_ends_in_round_order(self):
        chance = random.Random(41)
        for thing in drawn_things(42, 40) + [HOOKED]:
            for names in [thing.names(), some_names(chance, thing), some_names(chance, thing)]:
                found = compass(thing, names)
                self.assertEqual(found, sorted(ends_of(thing, names) or {(1, 0)}, key=turn))
            self.assertEqual(compass(thing), compass(thing, thing.names()))
            self.assertEqual(compass(thing), compass(thing.part_of(thing.names())))

    def test_of_some_pieces_as_of_the_thing_of_them(self):
        for names in (['a', 'b'], ['a', 'c', 'd'], ['b', 'd'], ['c']):
            self.assertEqual(compass(HOOKED, names), compass(HOOKED.part_of(names)))

    def test_pegs_change_nothing(self):
        pegged = SQUARES.with_peg(Peg('pin', 'a', 'c', [((0, 0), (3, 7))]))
        self.assertEqual(compass(pegged), compass(SQUARES))
        self.assertEqual(web(pegged, (1, 0)), web(SQUARES, (1, 0)))

    def test_moved_turned_and_mirrored(self):
        for thing in drawn_things(43, 15):
            before = compass(thing)
            self.assertEqual(compass(thing.moved(-60, 90)), before)
            if len(thing) > 1:
                self.assertEqual(set(compass(thing.turned())) | {(1, 0)}, {(-v, u) for u, v in before} | {(1, 0)})
                self.assertEqual(set(compass(thing.mirrored())) | {(1, 0)}, {(-u, v) for u, v in before} | {(1, 0)})

    def test_lists_are_new_and_not_changed(self):
        names = ['b', 'a', 'b']
        found = compass(SQUARES, names)
        found.clear()
        compass(FRAMED).append((0, 1))
        self.assertEqual(names, ['b', 'a', 'b'])
        self.assertEqual([compass(SQUARES, names), compass(FRAMED)], [[(0, 1), (0, -1)], [(1, 0)]])


class WebTests(unittest.TestCase):
    def test_values(self):
        self.assertEqual(web(SQUARES, (1, 0)), [('a', 'b')])
        self.assertEqual(web(SQUARES, (1, 1)), [('a', 'b'), ('a', 'c'), ('b', 'c')])
        self.assertEqual(web(SQUARES, (0, 1)), [('b', 'c')])
        self.assertEqual(web(SQUARES, (-1, 1)), [('b', 'a'), ('b', 'c')])
        self.assertEqual(web(names=['a', 'c', 'a'], direction=(1, 1), thing=SQUARES), [('a', 'c')])
        self.assertEqual(web(SQUARES, (1, 1), ['b']), [])
        self.assertEqual(web(FRAMED, (7, 5)), [('f', 'i'), ('i', 'f')])

    def test_all_pairs_that_bar(self):
        chance = random.Random(44)
        for thing in drawn_things(45, 25) + [HOOKED]:
            names = sorted(set(some_names(chance, thing)))
            for direction in chance.sample(with_between(compass(thing)), 6):
                pairs = [(one, other) for one in names for other in names
                         if one != other and bars(thing.piece(one), thing.piece(other), direction)]
                self.assertEqual(web(thing, direction, names), pairs)

    def test_by_carrying_along(self):
        for thing in drawn_things(46, 6):
            for direction in [(1, 0), (-3, 2)]:
                pairs = [(one.name, other.name) for one in thing.pieces() for other in thing.pieces()
                         if one.name != other.name and bars_piece(one, other, direction)]
                self.assertEqual(web(thing, direction), pairs)

    def test_turned_by_half_the_pairs_are_turned_about(self):
        for thing in drawn_things(47, 20):
            for u, v in with_between(compass(thing)):
                self.assertEqual(web(thing, (-u, -v)), sorted((b, a) for a, b in web(thing, (u, v))))

    def test_lists_are_new(self):
        web(SQUARES, (1, 0)).clear()
        self.assertEqual(web(SQUARES, (1, 0)), [('a', 'b')])


class StandsForTests(unittest.TestCase):
    def test_values(self):
        four = [(1, 0), (0, 1), (-1, 0), (0, -1)]
        for direction, found in [((1, 1), (0, 1)), ((999, 1), (0, 1)), ((-1, 999), (-1, 0)), ((-1, -1), (0, -1)),
                                 ((1, -1), (1, 0)), ((1, -999), (1, 0)), ((999, -1), (1, 0))]:
            self.assertEqual(stands_for(SQUARES, direction), found)
        self.assertEqual([stands_for(SQUARES, direction) for direction in four], four)

    def test_behind_the_last_one_comes_the_first_one(self):
        self.assertEqual(stands_for(SQUARES, (1, -1), ['a', 'b']), (0, 1))
        self.assertEqual(stands_for(SQUARES, (1, 0), ['a', 'b']), (0, 1))
        self.assertEqual(stands_for(names=['b', 'a', 'b'], direction=(-1, 0), thing=SQUARES), (0, -1))
        self.assertEqual([stands_for(FRAMED, direction) for direction in [(1, 0), (0, 1), (-1, 0), (5, -1)]], [(1, 0)] * 4)

    def test_the_next_one_in_round_order(self):
        for thing in drawn_things(48, 25) + [HOOKED]:
            found = compass(thing)
            for direction in with_between(found):
                behind = [end for end in found if turn(end) >= turn(direction)]
                self.assertEqual(stands_for(thing, direction), (behind + found)[0])

    def test_its_web_is_a_part_of_the_web(self):
        for thing in drawn_things(49, 25) + [HOOKED]:
            for direction in with_between(compass(thing)):
                for names in (None, thing.names()[:3]):
                    other = stands_for(thing, direction, names)
                    self.assertLessEqual(set(web(thing, other, names)), set(web(thing, direction, names)))


class BarredByTests(unittest.TestCase):
    def test_values(self):
        self.assertEqual([barred_by(SQUARES, name, (1, 1)) for name in 'abc'], [['b', 'c'], ['c'], []])
        self.assertEqual(barred_by(direction=(-1, 0), name='b', thing=SQUARES), ['a'])
        self.assertEqual(barred_by(HOOKED, 'b', (0, 1)), ['c'])

    def test_as_the_web(self):
        for thing in drawn_things(50, 15):
            for direction in compass(thing) + [(3, 7), (-998, 999)]:
                pairs = web(thing, direction)
                for name in thing.names():
                    self.assertEqual(barred_by(thing, name, direction), [b for a, b in pairs if a == name])

    def test_lists_are_new(self):
        barred_by(SQUARES, 'a', (1, 0)).append('c')
        self.assertEqual(barred_by(SQUARES, 'a', (1, 0)), ['b'])


class ErrorTests(unittest.TestCase):
    def calls(self, names, direction):
        """The errors of all three functions with names."""
        return [caught(compass, SQUARES, names), caught(web, SQUARES, direction, names),
                caught(stands_for, SQUARES, direction, names)]

    def test_empty_lists(self):
        for names in ([], ()):
            for direction in [(1, 0), None, (2, 0)]:
                self.assertEqual(self.calls(names, direction), [('InvalidLot', {'at': -1})] * 3)

    def test_values_that_are_no_lists(self):
        for names in [True, 0, 5, '', 'a', 'abc', {}, {'a': 1}, SQUARES, TONGUE]:
            self.assertEqual(self.calls(names, (1, 0)), [('InvalidLot', {'at': -1})] * 3)

    def test_the_first_name_of_no_piece(self):
        for value in WRONG_NAMES:
            for direction in [(1, 0), None]:
                expected = [('UnknownName', {'name': value})] * 3
                self.assertEqual(self.calls([value], direction), expected)
                self.assertEqual(self.calls(('a', 'b', value, 'x', None), direction), expected)

    def test_wrong_directions(self):
        for value in WRONG_DIRECTIONS:
            expected = ('InvalidDirection', {'value': value})
            self.assertEqual(self.calls(['a', 'b'], value), [None, expected, expected])
            self.assertEqual(self.calls(None, value), [None, expected, expected])
            self.assertEqual(caught(barred_by, SQUARES, 'a', value), expected)

    def test_barred_by(self):
        for value in WRONG_NAMES + [None]:
            for direction in [(1, 0), None]:
                self.assertEqual(caught(barred_by, SQUARES, value, direction), ('UnknownName', {'name': value}))


if __name__ == '__main__':
    unittest.main()
