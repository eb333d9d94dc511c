import random
import unittest

from reference_lots import leaning_pairs, lot_is_stuck
from samples import FRAME, HOOKS, INNER, LEFT, RIGHT, ROW, UP, any_values, caught, random_lot, random_thing
from stucklots.arcs import Arc
from stucklots.clumps import clumps
from stucklots.lots import Lot
from stucklots.pegs import Peg
from stucklots.states import State
from stucklots.stuck import is_stuck_paper, is_walk, stuck_paper
from stucklots.things import Thing

# Held from both sides, with two ways, and glue.
PEGS = [Peg('held', 'b', 'c', [((5, 1), RIGHT), ((6, 1), LEFT)]), Peg('glue', 'a', 'b'), Peg('more', 'c', 'a')]
GLUED = Lot(Thing(ROW, PEGS), ['a', 'b', 'c'])
FRAMED = Lot(Thing([FRAME, INNER], [Peg('pin', 'i', 'f', [((4, 4), UP), ((1, 1), LEFT)])]))
WRONG_DIRECTIONS = any_values() + [0, 'up', (0, 0), (2, 0), (1000, 1), [1, 0], (True, 0), (1, 0, 0), Arc.whole(), GLUED]


def stuck_lots(seed, many):
    """Stuck lots by chance: clumps, and other lots that are stuck."""
    chance = random.Random(seed)
    found = []
    while len(found) < many:
        thing = random_thing(chance, 6, 5)
        found += [Lot(thing, names, fast=pegs) for names, pegs in clumps(thing) if len(names) > 1]
        lot = random_lot(chance, thing)
        if lot.is_stuck():
            found.append(lot)
    return found[:many]


def walk_by_words(lot, direction, walk):
    """Whether a list or tuple of names is a walk by the words of [18]."""
    names, pairs = lot.names(), leaning_pairs(lot, direction)
    return (bool(walk) and walk[0] == names[0] == walk[-1] and set(walk) == set(names)
            and all(pair in pairs for pair in zip(walk, walk[1:])))


def paper_by_words(lot, paper):
    """Whether a paper of the right kinds is a stuck paper by the words of [18]."""
    walks, bars = paper
    places = [(peg, index) for peg in lot.pegs() for index in range(len(lot.thing.peg_called(peg).ways()))]
    if [direction for direction, _ in walks] != lot.compass() or [bar[:2] for bar in bars] != places:
        return False
    for peg, index, name in bars:
        way = lot.thing.peg_called(peg).ways()[index]
        if name not in lot.names() or not lot.thing.piece(name).bars_way(way):
            return False
    return all(walk_by_words(lot, direction, walk) for direction, walk in walks)


class PaperTests(unittest.TestCase):
    def check(self, lot):
        paper = stuck_paper(lot)
        self.assertIsInstance(paper, tuple)
        walks, bars = paper
        self.assertIsInstance(walks, list)
        self.assertIsInstance(bars, list)
        self.assertTrue(all(isinstance(item, tuple) and isinstance(item[1], list) for item in walks))
        self.assertTrue(all(isinstance(item, tuple) for item in bars))
        self.assertTrue(paper_by_words(lot, paper))
        self.assertIs(is_stuck_paper(lot, paper), True)
        self.assertEqual(stuck_paper(lot), paper)
        self.assertEqual(stuck_paper(Lot(Thing.read(lot.thing.text()), lot.names()[::-1], fast=lot.pegs()[::-1])), paper)
        for direction, walk in walks:
            self.assertIs(is_walk(lot, direction, walk), True)

    def test_one_piece(self):
        lot = Lot(Thing(ROW), ['b'])
        self.assertEqual(stuck_paper(lot=lot), ([((1, 0), ['b'])], []))
        self.check(lot)

    def test_a_frame(self):
        self.assertEqual(stuck_paper(FRAMED), ([((1, 0), ['f', 'i', 'f'])], [('pin', 0, 'f'), ('pin', 1, 'f')]))
        self.check(FRAMED)

    def test_glue_and_held_pegs(self):
        self.check(GLUED)
        self.assertEqual(stuck_paper(GLUED)[1], [('held', 0, 'c'), ('held', 1, 'a')])

    def test_by_chance(self):
        seen = set()
        for lot in stuck_lots(91, 40):
            self.assertTrue(lot_is_stuck(lot))
            self.check(lot)
            seen.add(min(3, len(lot)))
        self.assertEqual(seen, {1, 2, 3})

    def test_not_stuck(self):
        chance = random.Random(92)
        words = set()
        for _ in range(120):
            thing = random_thing(chance, 5, 4)
            state = State(thing)
            if state.offers() and chance.random() < 0.5:
                state = state.after(chance.choice(state.offers()))
            for lot in state.lots():
                found = caught(stuck_paper, lot)
                if lot.is_stuck():
                    self.assertIsNone(found)
                    continue
                step = found[1]['step']
                self.assertEqual(found, ('NotStuck', {'step': step}))
                self.assertIsNone(caught(state.after, step))
                touched = step[2][0] if step[0] == 'part' else thing.peg_called(step[1]).one
                self.assertIn(touched, lot.names())
                words.add(step[0])
        self.assertEqual(words, {'part', 'draw'})

    def test_the_lists_are_new(self):
        before = repr(stuck_paper(GLUED))
        walks, bars = stuck_paper(GLUED)
        walks[0][1].clear()
        walks.clear()
        bars.append(('held', 0, 'a'))
        self.assertEqual(repr(stuck_paper(GLUED)), before)


class WalkTests(unittest.TestCase):
    def test_values(self):
        # Upwards nothing bars: a is glued to b and pegged to c, b is pegged to c.
        for walk, right in [(['a', 'b', 'c', 'a'], True), (('a', 'b', 'c', 'a'), True), (['a', 'b', 'a', 'c', 'a'], True),
                            (['a', 'b', 'c', 'b', 'a'], True), (['a', 'b', 'c'], False), (['b', 'c', 'a', 'b'], False),
                            (['a', 'b', 'a'], False), (['a', 'a', 'b', 'c', 'a'], False), ([], False), ((), False),
                            (['a'], False), (['a', 'b', 'c', 'd', 'a'], False), ('abca', False)]:
            self.assertIs(is_walk(GLUED, UP, walk), right, walk)
        self.assertIs(is_walk(direction=UP, walk=('a', 'c', 'b', 'a'), lot=GLUED), True)

    def test_directions_count(self):
        lot = Lot(Thing(ROW, [Peg('p', 'a', 'c')]), ['a', 'b', 'c'])
        self.assertIs(is_walk(lot, RIGHT, ['a', 'b', 'c', 'a']), True)
        self.assertIs(is_walk(lot, LEFT, ['a', 'b', 'c', 'a']), False)
        self.assertIs(is_walk(lot, LEFT, ['a', 'c', 'b', 'a']), True)
        self.assertIs(is_walk(lot, UP, ['a', 'b', 'c', 'a']), False)

    def test_pegs_that_are_not_fast_do_not_count(self):
        lot = Lot(GLUED.thing, ['a', 'b', 'c'], fast=['glue', 'held'])
        self.assertIs(is_walk(lot, UP, ['a', 'b', 'c', 'a']), False)
        self.assertIs(is_walk(lot, UP, ['a', 'b', 'c', 'b', 'a']), True)

    def test_one_piece(self):
        lot = Lot(Thing(ROW), ['b'])
        for walk, right in [(['b'], True), (('b',), True), (['b', 'b'], False), ([], False), (['a'], False), ('b', False)]:
            self.assertIs(is_walk(lot, (3, -5), walk), right)

    def test_any_value(self):
        for value in any_values() + [0, 'abca', {'a': 1}, GLUED, Arc.whole(), ['a', ['b'], 'c', 'a'], [['a'], 'b', 'c', ['a']],
                                     ['a', ('b',), 'c', 'a'], ['a', 'b', 'c', None, 'a'], ['a', {}, 'a'], (True, False)]:
            self.assertIs(is_walk(GLUED, UP, value), False, value)

    def test_by_chance(self):
        chance = random.Random(93)
        seen = []
        for lot in stuck_lots(94, 30):
            for direction, walk in chance.sample(stuck_paper(lot)[0], 1):
                for _ in range(8):
                    changed = list(walk)
                    self.change(chance, lot, changed)
                    right = walk_by_words(lot, direction, changed)
                    self.assertIs(is_walk(lot, direction, changed), right)
                    self.assertIs(is_walk(lot, direction, tuple(changed)), right)
                    seen.append(right)
        self.assertTrue(15 < sum(seen) < len(seen) - 15)

    def change(self, chance, lot, walk):
        at = chance.randrange(len(walk))
        kind = chance.randrange(5)
        if kind == 0:
            del walk[at]
        elif kind == 1:
            walk.insert(at, chance.choice(lot.thing.names()))
        elif kind == 2:
            walk[at] = chance.choice(lot.names())
        elif kind == 3:
            walk += walk[1:]
        else:
            walk.reverse()

    def test_wrong_directions(self):
        for value in WRONG_DIRECTIONS:
            for walk in (['a', 'b', 'c', 'a'], None, []):
                self.assertEqual(caught(is_walk, GLUED, value, walk), ('InvalidDirection', {'value': value}))


class IsStuckPaperTests(unittest.TestCase):
    def setUp(self):
        self.walks, self.bars = stuck_paper(GLUED)

    def check(self, walks, bars, right):
        self.assertIs(is_stuck_paper(GLUED, (walks, bars)), right, (walks, bars))

    def test_lists_and_tuples(self):
        tuples = tuple((direction, tuple(walk)) for direction, walk in self.walks)
        self.check(self.walks, self.bars, True)
        self.check(tuples, tuple(self.bars), True)
        self.check(list(tuples), self.bars, True)
        self.check(tuple(self.walks), self.bars, True)
        self.assertIs(is_stuck_paper(paper=(tuples, self.bars), lot=GLUED), True)

    def test_pairs_and_triples_are_tuples(self):
        self.assertIs(is_stuck_paper(GLUED, [self.walks, self.bars]), False)
        self.check([list(item) for item in self.walks], self.bars, False)
        self.check([([*direction], walk) for direction, walk in self.walks], self.bars, False)
        self.check(self.walks, [list(item) for item in self.bars], False)
        self.check(self.walks, [list(self.bars[0])] + self.bars[1:], False)

    def test_true_and_false_are_no_numbers(self):
        paper = stuck_paper(FRAMED)
        self.assertIs(is_stuck_paper(FRAMED, paper), True)
        self.assertIs(is_stuck_paper(FRAMED, ([((True, 0), ['f', 'i', 'f'])], paper[1])), False)
        self.assertIs(is_stuck_paper(FRAMED, ([((1, False), ['f', 'i', 'f'])], paper[1])), False)
        self.assertIs(is_stuck_paper(FRAMED, (paper[0], [('pin', False, 'f'), ('pin', 1, 'f')])), False)
        self.assertIs(is_stuck_paper(FRAMED, (paper[0], [('pin', 0, 'f'), ('pin', True, 'f')])), False)

    def test_walks_left_out_doubled_and_exchanged(self):
        for at in range(len(self.walks)):
            self.check(self.walks[:at] + self.walks[at + 1:], self.bars, False)
            self.check(self.walks[:at] + self.walks[at:at + 1] + self.walks[at:], self.bars, False)
            self.check(self.walks[at:] + self.walks[:at], self.bars, at == 0)
        self.check(self.walks[::-1], self.bars, False)
        self.check([], self.bars, False)

    def test_walks_changed(self):
        for at, (direction, walk) in enumerate(self.walks):
            for item, right in [((direction, walk[:-1]), False), ((direction, walk[1:]), False), ((direction, []), False),
                                ((direction, walk + walk[1:]), True), (((-direction[0], -direction[1]), walk), False),
                                ((direction, walk, walk), False), ((direction,), False), (direction, False), (walk, False),
                                (((3, 7), walk), False), (((0, 0), walk), False), ((walk, direction), False),
                                ((direction, ''.join(walk)), False), (None, False)]:
                self.check(self.walks[:at] + [item] + self.walks[at + 1:], self.bars, right)

    def test_bars_left_out_doubled_and_exchanged(self):
        for bars in [[], self.bars[:1], self.bars[1:], self.bars[::-1], self.bars + self.bars[:1], self.bars * 2,
                     self.bars[:1] * 2, self.bars + [('glue', 0, 'a')], [('glue', 0, 'a')] + self.bars]:
            self.check(self.walks, bars, False)

    def test_bars_changed(self):
        # To the right the way is barred by c and d, to the left by b and a.
        for at, right in [(0, ['c']), (1, ['a', 'b'])]:
            for name in ['a', 'b', 'c', 'd', 'x', 'held', None, ['c'], ('c',), 0, GLUED]:
                bars = list(self.bars)
                bars[at] = ('held', at, name)
                self.check(self.walks, bars, name in right)
        for item in [('held', 1, 'c'), ('held', -1, 'c'), ('held', 2, 'c'), ('glue', 0, 'c'), ('x', 0, 'c'), (None, 0, 'c'),
                     ('held', '0', 'c'), ('held', None, 'c'), ('held', 0), ('held', 0, 'c', 'c'), 'held', (), None, (['held'], 0, 'c')]:
            self.check(self.walks, [item] + self.bars[1:], False)

    def test_any_value(self):
        for value in any_values() + [0, GLUED, (self.walks,), (self.walks, self.bars, []), (self.bars, self.walks), self.walks,
                                     {'walks': self.walks}, (dict(self.walks), self.bars), (self.walks, {}), (self.walks, None),
                                     (None, self.bars), (None, None), ('', ''), (self.walks, 'held')]:
            self.assertIs(is_stuck_paper(GLUED, value), False, value)
            self.assertIs(is_stuck_paper(FRAMED, value), False, value)
        for value in any_values():
            self.check(value, self.bars, False)
            self.check(self.walks, value, False)
            self.check([value] + self.walks[1:], self.bars, False)
            self.check(self.walks, [value] + self.bars[1:], False)
            self.check([(self.walks[0][0], value)] + self.walks[1:], self.bars, False)

    def test_papers_of_other_lots(self):
        self.assertIs(is_stuck_paper(FRAMED, (self.walks, self.bars)), False)
        fewer = Lot(GLUED.thing, ['a', 'b', 'c'], fast=['glue', 'more'])
        self.assertIs(is_stuck_paper(fewer, (self.walks, [])), all(walk_by_words(fewer, *item) for item in self.walks))
        self.assertIs(is_stuck_paper(fewer, (self.walks, self.bars)), False)

    def test_a_lot_that_is_not_stuck_has_none(self):
        thing = Thing(HOOKS)
        walk = ['a', 'b', 'c', 'd', 'a']
        walks = [(direction, walk) for direction in Lot(thing).compass()]
        self.assertIs(is_stuck_paper(Lot(thing), (walks, [])), False)

    def test_by_chance(self):
        chance = random.Random(95)
        for lot in stuck_lots(96, 40):
            walks, bars = stuck_paper(lot)
            for _ in range(6):
                changed = self.changed(chance, lot, walks, bars)
                self.assertIs(is_stuck_paper(lot, changed), paper_by_words(lot, changed), changed)

    def changed(self, chance, lot, walks, bars):
        walks, bars = [(direction, list(walk)) for direction, walk in walks], list(bars)
        rows = chance.choice([walks, bars])
        at = chance.randrange(len(rows)) if rows else 0
        kind = chance.randrange(4)
        if kind == 0:
            rows[at:at + 1] = rows[at:at + 1] * chance.choice([0, 2])
        elif kind == 1 and rows:
            other = chance.randrange(len(rows))
            rows[at], rows[other] = rows[other], rows[at]
        elif kind == 2 and bars:
            spot = chance.randrange(len(bars))
            bars[spot] = (*bars[spot][:2], chance.choice(lot.thing.names()))
        else:
            walk = chance.choice(walks)[1]
            walk.insert(chance.randrange(len(walk)), chance.choice(lot.names()))
        return (walks, bars)


if __name__ == '__main__':
    unittest.main()
