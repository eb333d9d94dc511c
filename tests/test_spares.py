import inspect
import random
import unittest

from reference import with_between
from reference_lots import all_sets
from reference_spares import Slow, least_price, price_of_set
from samples import DOWN, FRAME, GROOVE, HOOKS, INNER, LEFT, PEGGED_ROW, PIN, RIGHT, ROW, TONGUE, UP
from samples import any_values, box, caught, random_thing
from stucklots.arcs import Arc
from stucklots.compass import compass, web
from stucklots.lots import Lot
from stucklots.parts import overlap
from stucklots.pegs import Peg
from stucklots.pieces import Piece
from stucklots.spares import carried, cheaper_sets, fetched, gone_sets, price_of
from stucklots.states import State
from stucklots.things import Thing

HOOKED = Thing(HOOKS)
PINNED = Thing(HOOKS, [Peg('pin', 'b', 'a', [((3, 8), UP)])])
CUP = Thing([GROOVE, TONGUE])
SHUT = Thing([FRAME, INNER])
LIDDED = Thing([GROOVE, TONGUE, Piece('lid', [((0, 6), (6, 6), (6, 8), (0, 8))])])
PRICES = {'a': 1, 'b': 1, 'c': 9, 'd': 4}
WRONG_NAMES = any_values() + [0, 'e', 'pin', ['a'], ('a',), {'a': 1}, PINNED, PIN, Lot(HOOKED), [[[[[[[['a']]]]]]]]]
WRONG_DIRECTIONS = [value for value in any_values() if value is not None] + [
    0, 'up', (0, 0), (2, 0), (1000, 1), [1, 0], (True, 0), (1, 0, 0), Arc.whole(), PINNED]
WRONG_PRICES = any_values() + [
    {}, [], 0, 'abcd', PINNED, list(PRICES.items()), {'a': 1, 'b': 1, 'c': 9}, {**PRICES, 'e': 1}, {**PRICES, 'pin': 0},
    {**PRICES, 0: 1}, {'a': 1, 'b': 1, 'c': 9, 'e': 4}, {'a': 1, 'b': 1, 'c': 9, None: 4}, {**PRICES, 'd': -1}, {**PRICES, 'd': 100},
    {**PRICES, 'a': True}, {**PRICES, 'a': False}, {**PRICES, 'b': None}, {**PRICES, 'b': '1'}, {**PRICES, 'b': [1]},
    {**PRICES, 'b': (1,)}, {**PRICES, 'c': 999999999}, {**PRICES, ('a',): 1}, {('a',): 1, 'b': 1, 'c': 1, 'd': 1},
]


def drawn(seed, many, most=5, pegs=3):
    chance = random.Random(seed)
    return [(chance, random_thing(chance, most, pegs)) for _ in range(many)]


def random_prices(chance, thing):
    """Prices by chance, put in by chance, with nothing and the most among them."""
    names = thing.names()
    chance.shuffle(names)
    return {name: chance.choice([0, 0, 1, 1, 2, 5, 9, 50, 99]) for name in names}


class PriceTests(unittest.TestCase):
    def test_values(self):
        self.assertEqual(price_of(HOOKED, 'd', PRICES), 6)
        self.assertEqual(price_of(HOOKED, 'd', PRICES, only=RIGHT), 13)
        self.assertEqual(price_of(only=None, prices=PRICES, name='d', thing=HOOKED), 6)
        self.assertEqual([price_of(HOOKED, name, PRICES) for name in 'abc'], [2, 2, 11])
        self.assertEqual([price_of(HOOKED, name, PRICES, only=LEFT) for name in 'abcd'], [2, 2, 15, 15])
        self.assertEqual([price_of(HOOKED, name, PRICES, only=UP) for name in 'abcd'], [15, 15, 15, 15])
        self.assertEqual(price_of(SHUT, 'i', {'f': 99, 'i': 0}), 99)
        self.assertEqual(price_of(Thing([TONGUE]), 't', {'t': 0}), 0)
        self.assertEqual(price_of(LIDDED, 't', {'lid': 3, 'g': 7, 't': 1}), 4)
        self.assertEqual(price_of(LIDDED, 't', {'lid': 8, 'g': 7, 't': 1}), 8)

    def test_pegs(self):
        prices = {name: 1 for name in 'abcd'}
        self.assertEqual([price_of(PEGGED_ROW, name, prices) for name in 'abcd'], [2, 2, 2, 2])
        # The peg held is free when d has gone, and a with it, which is glued to d.
        self.assertEqual(price_of(PEGGED_ROW.without_peg('glue'), 'b', {'a': 9, 'b': 1, 'c': 5, 'd': 2}), 3)
        self.assertEqual(price_of(PEGGED_ROW.without_peg('glue'), 'b', {'a': 9, 'b': 1, 'c': 2, 'd': 5}), 3)

    def test_against_all_ways_of_carrying_lots_off(self):
        dear = 0
        for chance, thing in drawn(701, 40):
            gone = Slow(thing).all_gone()
            for _ in range(3):
                prices = random_prices(chance, thing)
                for name in thing.names():
                    self.assertEqual(price_of(thing, name, prices), least_price(gone, name, prices))
                    dear += price_of(thing, name, prices) > prices[name]
        self.assertGreater(dear, 60)

    def test_against_all_ways_in_one_direction(self):
        for chance, thing in drawn(702, 50):
            only = chance.choice(with_between(compass(thing)))
            gone = Slow(thing, only).all_gone()
            prices = random_prices(chance, thing)
            for name in thing.names():
                self.assertEqual(price_of(thing, name, prices, only=only), least_price(gone, name, prices))

    def test_only_is_keyword_only(self):
        for call in (price_of, fetched):
            with self.assertRaises(TypeError):
                call(HOOKED, 'd', PRICES, RIGHT)

    def test_the_order_of_keys_means_nothing(self):
        other = {name: PRICES[name] for name in 'dbca'}
        for call in (price_of, fetched, cheaper_sets):
            for name in 'abcd':
                self.assertEqual(call(HOOKED, name, other), call(HOOKED, name, PRICES))

    def test_prices_are_not_changed(self):
        prices = dict(PRICES)
        for call in (price_of, fetched, cheaper_sets):
            call(HOOKED, 'd', prices)
        self.assertEqual(list(prices.items()), list(PRICES.items()))


class ErrorTests(unittest.TestCase):
    def test_wrong_prices(self):
        for value in WRONG_PRICES:
            self.assertEqual(caught(price_of, HOOKED, 'd', value), ('InvalidPrices', {}), value)
            self.assertEqual(caught(price_of, HOOKED, None, value, only=None), ('InvalidPrices', {}))
            self.assertEqual(caught(fetched, HOOKED, 'e', value, only=(0, 0)), ('InvalidPrices', {}))
            self.assertEqual(caught(cheaper_sets, HOOKED, [], value), ('InvalidPrices', {}))

    def test_the_bounds_of_prices(self):
        for number in (0, 1, 99):
            self.assertIsNone(caught(price_of, HOOKED, 'd', {**PRICES, 'b': number}))

    def test_unknown_names(self):
        for value in WRONG_NAMES:
            self.assertEqual(caught(price_of, PINNED, value, PRICES), ('UnknownName', {'name': value}))
            self.assertEqual(caught(fetched, PINNED, value, PRICES, only=(0, 0)), ('UnknownName', {'name': value}))
            self.assertEqual(caught(cheaper_sets, PINNED, value, PRICES), ('UnknownName', {'name': value}))

    def test_wrong_directions(self):
        for value in WRONG_DIRECTIONS:
            for call in (price_of, fetched):
                self.assertEqual(caught(call, PINNED, 'd', PRICES, only=value), ('InvalidDirection', {'value': value}))


class FetchedTests(unittest.TestCase):
    def check(self, thing, name, prices, only=None):
        """Holds a list of steps against carrying by the words, step by step."""
        steps = fetched(thing, name, prices, only=only)
        self.assertIsInstance(steps, list)
        slow = Slow(thing)
        rest = slow.first()
        gone = []
        for step in steps:
            self.assertIsInstance(step, tuple)
            if step[0] == 'draw':
                self.assertIn((step, (rest[0], tuple(peg for peg in rest[1] if peg != step[1]))), slow.moves(rest))
                rest = (rest[0], tuple(peg for peg in rest[1] if peg != step[1]))
            else:
                self.assertEqual(step[0], 'carry')
                self.assertTrue(only is None or step[1] == only)
                self.assertTrue(step[2] and slow.can_carry(web_of(thing, step[1]), step[2], rest))
                rest = slow.behind(step[2], rest)
                gone += step[2]
        self.assertEqual(price_of_set(gone, prices), price_of(thing, name, prices, only=only))
        self.assertIn(name, steps[-1][2])
        self.assertEqual(carried(thing, steps), sorted(gone))
        return steps

    def test_values(self):
        self.assertEqual(self.check(Thing([TONGUE]), 't', {'t': 5}), [('carry', RIGHT, ('t',))])
        self.assertEqual(self.check(CUP, 't', {'t': 5, 'g': 1}, UP), [('carry', UP, ('t',))])
        self.assertEqual(self.check(SHUT, 'i', {'i': 5, 'f': 1}), [('carry', RIGHT, ('f', 'i'))])
        for name in 'abcd':
            self.check(HOOKED, name, PRICES)
            self.check(PINNED, name, PRICES)
            self.check(PEGGED_ROW, name, PRICES)
            for direction in (RIGHT, LEFT, UP, DOWN, (2, 1)):
                self.check(HOOKED, name, PRICES, direction)

    def test_by_name(self):
        self.assertEqual(fetched(only=UP, prices={'g': 1, 't': 1}, name='t', thing=CUP), [('carry', UP, ('t',))])

    def test_by_chance(self):
        words = []
        for chance, thing in drawn(703, 50, 5, 4):
            for name in thing.names():
                prices = random_prices(chance, thing)
                only = chance.choice([None, None, chance.choice(with_between(compass(thing)))])
                words += [step[0] for step in self.check(thing, name, prices, only)]
        self.assertGreater(min(words.count('draw'), words.count('carry')), 25)

    def test_pieces_without_a_price(self):
        for chance, thing in drawn(704, 20):
            for name in thing.names():
                self.check(thing, name, {other: 0 for other in thing.names()})
                self.check(thing, name, {other: int(other == name) for other in thing.names()})

    def test_equal_calls_give_equal_steps(self):
        other = Thing(PINNED.pieces()[::-1], PINNED.pegs())
        for name in 'abcd':
            self.assertEqual(fetched(PINNED, name, PRICES), fetched(other, name, {key: PRICES[key] for key in 'cadb'}))
        fetched(PINNED, 'd', PRICES).clear()
        self.assertTrue(fetched(PINNED, 'd', PRICES))


def web_of(thing, direction):
    return set(web(thing, direction))


def wrong_steps():
    """Values that have no form of a step for a spare part."""
    rows = [('carry', value, ('a',)) for value in WRONG_DIRECTIONS + [None]]
    rows += [('carry', UP, value) for value in (None, True, 0, '', 'a', ['a'], (), ('b', 'a'), ('a', 'a'), ('a', None), ('A',),
                                                (0,), (('a',),), {'a': 1}, {}, HOOKED)]
    rows += [('draw', value) for value in (None, True, 0, '', 'A', 'toolong', ('pin',), ['pin'], {'pin': 1}, PIN)]
    rows += [('carry',), ('carry', UP), ('carry', UP, ('a',), ('b',)), ('draw',), ('draw', 'pin', 'pin'), ('carry', 'pin'),
             ['carry', UP, ('a',)], ['draw', 'pin'], ('part', UP, ('a',)), ('leave', UP, 'a'), ('join', UP, ('a',), ('b',)),
             ('peg', 'pin'), ('Carry', UP, ('a',)), 'carry', (None, UP, ('a',)), ([], 'pin'), (PIN, 'pin'), HOOKED, State(HOOKED)]
    return rows + any_values()


class CarriedTests(unittest.TestCase):
    def test_values(self):
        self.assertEqual(carried(HOOKED, []), [])
        self.assertEqual(carried(steps=(), thing=HOOKED), [])
        self.assertEqual(carried(HOOKED, [('carry', RIGHT, ('c', 'd'))]), ['c', 'd'])
        self.assertEqual(carried(HOOKED, (('carry', RIGHT, ('c', 'd')), ('carry', UP, ('b',)))), ['b', 'c', 'd'])
        self.assertEqual(carried(HOOKED, [('carry', UP, ('a', 'b', 'c', 'd'))]), ['a', 'b', 'c', 'd'])
        self.assertEqual(carried(PINNED, [('carry', RIGHT, ('c', 'd')), ('draw', 'pin'), ('carry', UP, ('b',)), ('carry', DOWN, ('a',))]),
                         ['a', 'b', 'c', 'd'])

    def test_fast_pegs_go_with_the_set_that_they_tie(self):
        steps = [('carry', LEFT, ('a', 'b'))]
        self.assertEqual(carried(PINNED, steps), ['a', 'b'])
        self.assertEqual(caught(carried, PINNED, steps + [('draw', 'pin')]), ('InvalidStep', {}))

    def test_no_form_of_a_step(self):
        for value in wrong_steps():
            self.assertEqual(caught(carried, PINNED, [value]), ('InvalidStep', {}), value)
            self.assertEqual(caught(carried, PINNED, (('carry', LEFT, ('a', 'b')), value, None)), ('InvalidStep', {}))
            if value != ('draw', 'pin'):
                self.assertEqual(caught(carried, PEGGED_ROW, [value]), ('InvalidStep', {}), value)

    def test_what_does_not_remain_or_cannot_be_done(self):
        for steps in [
            [('carry', UP, ('x',))], [('carry', UP, ('a', 'x'))], [('carry', UP, ('pin',))], [('draw', 'x')], [('draw', 'a')], [('draw', 'pin')],
            [('carry', UP, ('a',))], [('carry', RIGHT, ('b',))], [('carry', RIGHT, ('c', 'd')), ('carry', UP, ('b',))],
            [('carry', RIGHT, ('c', 'd')), ('carry', RIGHT, ('c',))], [('carry', RIGHT, ('c', 'd')), ('carry', RIGHT, ('b', 'c'))],
            [('carry', RIGHT, ('c', 'd')), ('draw', 'pin'), ('draw', 'pin')],
            [('carry', RIGHT, ('a', 'b', 'c', 'd')), ('carry', RIGHT, ('a',))], [('carry', RIGHT, ('a', 'b', 'c', 'd')), ('draw', 'pin')],
        ]:
            self.assertEqual(caught(carried, PINNED, steps), ('InvalidStep', {}), steps)
            self.assertIsNone(caught(carried, PINNED, steps[:-1]))

    def test_each_step_by_chance(self):
        right = wrong = 0
        for chance, thing in drawn(705, 40, 4):
            slow = Slow(thing)
            rest, steps = slow.first(), []
            while rest[0]:
                moves = slow.moves(rest)
                for chosen in all_sets(thing.names())[1:]:
                    direction = chance.choice(with_between(compass(thing)))
                    good = set(chosen) <= set(rest[0]) and slow.can_carry(web_of(thing, direction), chosen, rest)
                    found = caught(carried, thing, steps + [('carry', direction, chosen)])
                    self.assertEqual(found, None if good else ('InvalidStep', {}))
                    right, wrong = right + good, wrong + (not good)
                for peg in thing.peg_names():
                    good = any(step == ('draw', peg) for step, _ in moves)
                    self.assertEqual(caught(carried, thing, steps + [('draw', peg)]), None if good else ('InvalidStep', {}))
                step, rest = chance.choice(moves)
                steps.append(step)
                self.assertEqual(carried(thing, steps), [name for name in thing.names() if name not in rest[0]])
        self.assertGreater(min(right, wrong), 60)

    def test_lists_are_new_and_not_changed(self):
        steps = [('carry', RIGHT, ('c', 'd'))]
        carried(HOOKED, steps).clear()
        self.assertEqual((steps, carried(HOOKED, steps)), ([('carry', RIGHT, ('c', 'd'))], ['c', 'd']))


class SetTests(unittest.TestCase):
    def test_gone_sets(self):
        self.assertTrue(inspect.isgenerator(gone_sets(HOOKED)))
        self.assertEqual(list(gone_sets(thing=CUP)), [(), ('g',), ('t',), ('g', 't')])
        self.assertEqual(list(gone_sets(SHUT)), [(), ('f', 'i')])
        self.assertEqual(list(gone_sets(Thing([TONGUE]))), [(), ('t',)])
        self.assertEqual(list(gone_sets(LIDDED)), [(), ('g',), ('lid',), ('g', 'lid'), ('g', 't'), ('lid', 't'), ('g', 'lid', 't')])
        self.assertEqual(list(gone_sets(Thing(ROW))), all_sets('abcd'))

    def test_gone_sets_against_all_ways(self):
        for _, thing in drawn(706, 60, 5, 4):
            self.assertEqual(list(gone_sets(thing)), Slow(thing).all_gone())

    def test_cheaper_sets(self):
        self.assertEqual(cheaper_sets(HOOKED, 'd', PRICES), [(), ('a', 'b')])
        self.assertEqual(cheaper_sets(prices=PRICES, name='a', thing=HOOKED), [()])
        self.assertEqual(cheaper_sets(LIDDED, 't', {'lid': 3, 'g': 3, 't': 1}), [(), ('g',), ('lid',)])
        # As dear is not cheaper, and nothing is cheaper than what has no price.
        self.assertEqual(cheaper_sets(LIDDED, 't', {'lid': 3, 'g': 4, 't': 1}), [(), ('lid',)])
        self.assertEqual(cheaper_sets(LIDDED, 'lid', {'lid': 0, 'g': 3, 't': 1}), [])

    def test_cheaper_sets_against_all_sets(self):
        most = 0
        for chance, thing in drawn(707, 40):
            gone = Slow(thing).all_gone()
            prices = random_prices(chance, thing)
            for name in thing.names():
                least = least_price(gone, name, prices)
                expected = [names for names in gone if name not in names and price_of_set(names, prices) < least]
                self.assertEqual(cheaper_sets(thing, name, prices), expected)
                most = max(most, len(expected))
        self.assertGreater(most, 3)

    def test_returned_lists_are_new(self):
        cheaper_sets(HOOKED, 'd', PRICES).clear()
        self.assertEqual(len(cheaper_sets(HOOKED, 'd', PRICES)), 2)

    def test_many_pieces(self):
        thing = Thing([Piece('abcdefghi'[at], [box(5 * at, at * at * 7 % 40)]) for at in range(9)])
        self.assertEqual(len(list(gone_sets(thing))), 512)
        self.assertEqual(price_of(thing, 'e', {name: 1 for name in thing.names()}), 1)


class FactTests(unittest.TestCase):
    def test_what_can_be_gone_together(self):
        for chance, thing in drawn(708, 40):
            gone = list(gone_sets(thing))
            self.assertEqual((gone[0], gone[-1]), ((), tuple(thing.names())))
            for _ in range(20):
                both = set(chance.choice(gone)) | set(chance.choice(gone))
                self.assertIn(tuple(sorted(both)), gone)

    def test_in_one_direction_the_price_is_not_less(self):
        for chance, thing in drawn(709, 40):
            prices = random_prices(chance, thing)
            for name in thing.names():
                only = chance.choice(with_between(compass(thing)))
                self.assertGreaterEqual(price_of(thing, name, prices, only=only), price_of(thing, name, prices))

    def test_a_piece_put_on_makes_nothing_cheaper(self):
        for chance, thing in drawn(710, 50, 4):
            prices = random_prices(chance, thing)
            piece = Piece('z', [box(chance.randint(-2, 12), chance.randint(-2, 12))])
            if not any(overlap(piece.parts()[0], part) for other in thing.pieces() for part in other.parts()):
                more = thing.with_piece(piece)
                for name in thing.names():
                    self.assertGreaterEqual(price_of(more, name, {**prices, 'z': 3}), price_of(thing, name, prices))

    def test_raised_prices(self):
        for chance, thing in drawn(711, 40):
            prices = {name: chance.randint(0, 20) for name in thing.names()}
            raised = chance.choice(thing.names())
            amount = chance.randint(0, 40)
            for name in thing.names():
                old, new = price_of(thing, name, prices), price_of(thing, name, {**prices, raised: prices[raised] + amount})
                self.assertTrue(old <= new <= old + amount)

    def test_a_lot_of_the_first_state_that_leaves_can_be_gone(self):
        for chance, thing in drawn(712, 30):
            gone = list(gone_sets(thing))
            for direction in compass(thing):
                for names in Lot(thing).leaving(direction):
                    self.assertIn(names, gone)


if __name__ == '__main__':
    unittest.main()
