import itertools
import random
import unittest

from reference_lots import all_sets
from samples import DOWN, FRAME, GLUE, GROOVE, HELD, HOOKS, INNER, LEFT, PEGGED_ROW, PIN, RIGHT, ROW, TONGUE, UP
from samples import any_values, box, caught, random_peg, random_thing
from stucklots.changes import freeing_pegs, heirs, still_holds
from stucklots.clumps import clump_of, clumps
from stucklots.lots import Lot
from stucklots.parts import overlap
from stucklots.pegs import Peg
from stucklots.pieces import Piece
from stucklots.singles import kernel
from stucklots.stuck import is_stuck_paper, stuck_paper
from stucklots.things import Thing

HOOKED = Thing(HOOKS)
PINNED = Thing(HOOKS, [Peg('pin', 'b', 'a', [((3, 8), UP)])])
CUP = Thing([GROOVE, TONGUE])
# The frame keeps its inner piece; x is glued to the inner piece, and a peg that a piece bars ties both, too; y is free.
KEPT = Thing([FRAME, INNER, Piece('x', [box(20, 0)]), Piece('y', [box(20, 2)])],
             [Peg('glue', 'x', 'i'), Peg('held', 'f', 'i', [((4, 4), UP), ((0, 1), RIGHT)]), Peg('gone', 'f', 'i', [((0, 0), LEFT)])])
Z = Piece('z', [box(60, 60)])
WRONG_NAMES = any_values() + [0, 'e', 'glue', ['f'], ('f',), {'f': 1}, KEPT, Z, Lot(KEPT)]


def drawn(seed, many, most=5, pegs=4):
    chance = random.Random(seed)
    return [(chance, random_thing(chance, most, pegs)) for _ in range(many)]


def paper_of(thing, name):
    """A stuck paper of the clump with a piece."""
    names, pegs = clump_of(thing, name)
    return stuck_paper(Lot(thing, names, fast=pegs))


def as_tuples(paper):
    return (tuple((direction, tuple(walk)) for direction, walk in paper[0]), tuple(paper[1]))


def with_peg_changed(thing, name, ways):
    """The thing in which a peg has other ways."""
    peg = thing.peg_called(name)
    return thing.without_peg(name).with_peg(Peg(name, peg.one, peg.other, ways))


class HeirTests(unittest.TestCase):
    def test_values(self):
        self.assertEqual(clumps(KEPT), [(('f', 'i', 'x'), ('glue', 'held')), (('y',), ())])
        self.assertEqual(heirs(KEPT, KEPT), {'f': [clumps(KEPT)[0]], 'y': [clumps(KEPT)[1]]})
        apart = KEPT.without_peg('glue')
        self.assertEqual(heirs(old=KEPT, new=apart), {'f': [(('f', 'i'), ('held',)), (('x',), ())], 'y': [(('y',), ())]})
        self.assertEqual(heirs(apart, KEPT), {'f': clumps(KEPT)[:1], 'x': clumps(KEPT)[:1], 'y': clumps(KEPT)[1:]})
        self.assertEqual(heirs(KEPT, Thing([Z])), {'f': [], 'y': []})
        self.assertEqual(heirs(Thing([Z]), KEPT), {'z': []})
        self.assertEqual(heirs(KEPT, KEPT.without_piece('y')), {'f': clumps(KEPT)[:1], 'y': []})
        self.assertEqual(heirs(KEPT, KEPT.without_piece('f')), {'f': [(('i', 'x'), ('glue',))], 'y': [(('y',), ())]})

    def test_keys_and_heirs_are_ascending(self):
        glued = HOOKED.with_peg(Peg('glue', 'd', 'b'))
        for old, new in itertools.permutations([HOOKED, glued, PINNED, Thing(HOOKS[1:3]), PEGGED_ROW, Thing(ROW)], 2):
            found = heirs(old, new)
            self.assertEqual(list(found), [names[0] for names, _ in clumps(old)])
            for clump in clumps(old):
                self.assertEqual(found[clump[0][0]], [other for other in clumps(new) if set(clump[0]) & set(other[0])])

    def test_returned_dicts_and_lists_are_new(self):
        found = heirs(KEPT, KEPT)
        found['f'].clear()
        found.clear()
        self.assertEqual(heirs(KEPT, KEPT), {'f': [clumps(KEPT)[0]], 'y': [clumps(KEPT)[1]]})

    def test_a_piece_that_is_put_on_leaves_each_clump_one_heir(self):
        for chance, thing in drawn(801, 60):
            piece = Piece('z', [box(chance.randint(-2, 14), chance.randint(-2, 14), chance.randint(1, 5), chance.randint(1, 5))])
            if not any(overlap(piece.parts()[0], part) for other in thing.pieces() for part in other.parts()):
                found = heirs(thing, thing.with_piece(piece))
                self.assertEqual([len(later) for later in found.values()], [1] * len(clumps(thing)))


class StillHoldsTests(unittest.TestCase):
    def test_in_the_same_thing(self):
        for name in 'fixy':
            paper = paper_of(KEPT, name)
            self.assertIs(still_holds(KEPT, KEPT, name, paper), True)
            self.assertIs(still_holds(KEPT, KEPT, name, as_tuples(paper)), True)
            self.assertIs(still_holds(paper=paper, name=name, new=KEPT, old=KEPT), True)

    def test_changes_of_what_is_not_in_the_clump(self):
        paper = paper_of(KEPT, 'i')
        for new in [KEPT.with_piece(Z), KEPT.without_piece('y'), KEPT.with_peg(Peg('more', 'f', 'x')), KEPT.with_peg(Peg('far', 'f', 'y')),
                    KEPT.without_peg('gone'), KEPT.with_way('gone', ((9, 9), UP)), with_peg_changed(KEPT, 'gone', []),
                    KEPT.without_piece('y').with_piece(Piece('y', [box(50, 2)])), Thing(KEPT.pieces()[::-1], KEPT.pegs()[::-1])]:
            self.assertIs(still_holds(KEPT, new, 'f', paper), True)

    def test_changes_of_what_is_in_the_clump(self):
        paper = paper_of(KEPT, 'i')
        moved = Thing([FRAME, INNER, Piece('x', [box(21, -1)]), Piece('y', [box(20, 2)])], KEPT.pegs())
        for new in [KEPT.without_piece('f'), KEPT.without_piece('x'), KEPT.without_peg('glue'), KEPT.without_peg('held'),
                    KEPT.with_way('held', ((4, 4), UP)), KEPT.with_way('glue', ((4, 4), UP)), moved, KEPT.moved(1, 0), KEPT.mirrored(),
                    with_peg_changed(KEPT, 'held', [((0, 1), RIGHT), ((4, 4), UP)]), with_peg_changed(KEPT, 'held', [((4, 4), UP)]),
                    KEPT.without_peg('held').with_peg(Peg('held', 'f', 'x', KEPT.peg_called('held').ways())), Thing([Z])]:
            self.assertIs(still_holds(KEPT, new, 'f', paper), False)

    def test_a_piece_of_another_clump_than_the_paper(self):
        self.assertIs(still_holds(KEPT, KEPT, 'y', paper_of(KEPT, 'x')), False)
        self.assertIs(still_holds(KEPT, KEPT, 'x', paper_of(KEPT, 'y')), False)
        self.assertIs(still_holds(KEPT, KEPT.without_piece('f'), 'y', paper_of(KEPT, 'y')), True)

    def test_values_that_are_no_paper(self):
        walks, bars = paper_of(KEPT, 'f')
        for value in any_values() + [0, KEPT, Lot(KEPT), [walks, bars], (walks,), (walks, bars, bars), (bars, walks), (walks, bars[1:]),
                                     (walks[1:], bars), (walks, bars + bars), (walks[::-1] + walks, bars), (walks, bars[::-1])]:
            self.assertIs(still_holds(KEPT, KEPT, 'f', value), False)

    def test_unknown_names(self):
        paper = paper_of(KEPT, 'f')
        for value in WRONG_NAMES:
            self.assertEqual(caught(still_holds, KEPT, KEPT, value, paper), ('UnknownName', {'name': value}))
            self.assertEqual(caught(still_holds, KEPT, Thing([Z]), value, None), ('UnknownName', {'name': value}))
        # A name of new alone is no name of old.
        self.assertEqual(caught(still_holds, KEPT, KEPT.with_piece(Z), 'z', paper), ('UnknownName', {'name': 'z'}))

    def test_by_chance(self):
        seen = []
        for chance, thing in drawn(802, 60):
            new = changed(chance, thing)
            for names, pegs in clumps(thing):
                paper = stuck_paper(Lot(thing, names, fast=pegs))
                kept = (all(piece in new.pieces() for piece in thing.pieces() if piece.name in names)
                        and all(peg in new.pegs() for peg in thing.pegs() if peg.name in pegs))
                self.assertIs(still_holds(thing, new, names[-1], paper), kept)
                if kept:
                    self.assertTrue(is_stuck_paper(Lot(new, names, fast=pegs), paper))
                    self.assertEqual([clump for clump in clumps(new) if set(names) <= set(clump[0])],
                                     heirs(thing, new)[names[0]])
                seen.append((kept, len(names) > 1))
        for key in itertools.product([True, False], repeat=2):
            self.assertGreater(seen.count(key), 3)


def changed(chance, thing):
    """A thing that is changed once or twice: a piece or a peg put on or taken out, or a way more."""
    for _ in range(chance.randint(1, 2)):
        kind = chance.randint(0, 4)
        if kind == 0 and len(thing) > 1:
            thing = thing.without_piece(chance.choice(thing.names()))
        elif kind == 1 and thing.pegs():
            thing = thing.without_peg(chance.choice(thing.peg_names()))
        elif kind == 2 and len(thing) > 1 and 'more' not in thing.peg_names():
            thing = thing.with_peg(random_peg(chance, 'more', thing.names()))
        elif kind == 3 and [peg for peg in thing.pegs() if len(peg) < 3]:
            peg = chance.choice([peg for peg in thing.pegs() if len(peg) < 3])
            thing = thing.with_way(peg.name, ((chance.randint(-2, 16), chance.randint(-2, 16)), chance.choice([UP, DOWN, LEFT])))
        elif 'z' not in thing:
            thing = thing.with_piece(Z)
    return thing


class FreeingTests(unittest.TestCase):
    def test_values(self):
        self.assertEqual(freeing_pegs(CUP, 't'), [()])
        self.assertEqual(freeing_pegs(Thing([FRAME, INNER]), 'i'), [])
        self.assertEqual(freeing_pegs(name='x', thing=KEPT), [('glue',)])
        self.assertEqual([freeing_pegs(KEPT, name) for name in 'fiy'], [[], [], [()]])
        self.assertEqual([freeing_pegs(PEGGED_ROW, name) for name in 'abcd'], [[('glue',)], [('glue',), ('held',)], [('glue',), ('held',)], [('glue',)]])

    def test_shorter_ones_first(self):
        pegs = [Peg('s', 'a', 'b'), Peg('t', 'a', 'b'), Peg('r', 'b', 'c')]
        thing = Thing(ROW[:3], pegs)
        self.assertEqual(freeing_pegs(thing, 'c'), [('r',)])
        self.assertEqual(freeing_pegs(thing, 'a'), [('s', 't')])
        self.assertEqual(freeing_pegs(thing, 'b'), [('r', 's', 't')])
        two = Thing([FRAME, INNER, Piece('x', [box(3, 10)])], [Peg('q', 'x', 'i'), Peg('p', 'x', 'f', [((4, 11), UP)])])
        self.assertEqual(freeing_pegs(two, 'x'), [('p', 'q')])
        late = Thing(ROW[:3], [Peg('z', 'a', 'b', [((5, 1), RIGHT)]), Peg('m', 'b', 'c', [((3, 1), LEFT)]), Peg('n', 'b', 'c', [((3, 1), LEFT)])])
        self.assertEqual(freeing_pegs(late, 'b'), [('z',), ('m', 'n')])

    def test_against_all_sets_of_pegs(self):
        shapes = set()
        for _, thing in drawn(803, 45, 5, 5):
            for name in thing.names():
                free = [pegs for pegs in all_sets(thing.peg_names()) if self.is_freed(thing, pegs, name)]
                least = [pegs for pegs in free if not any(set(other) < set(pegs) for other in free)]
                self.assertEqual(freeing_pegs(thing, name), least)
                shapes.add(tuple(len(pegs) for pegs in least))
        self.assertLessEqual({(0,), (1,), (2,), (1, 1)}, shapes)

    def is_freed(self, thing, pegs, name):
        for peg in pegs:
            thing = thing.without_peg(peg)
        return name not in kernel(thing)[0]

    def test_more_pegs_free_it_too(self):
        for chance, thing in drawn(804, 60):
            for name in thing.names():
                for pegs in freeing_pegs(thing, name):
                    more = set(pegs) | set(chance.sample(thing.peg_names(), chance.randint(0, len(thing.pegs()))))
                    self.assertTrue(self.is_freed(thing, more, name))

    def test_many_pegs(self):
        pegs = [Peg('stuvwxyz'[at], 'a', 'b') for at in range(8)]
        self.assertEqual(freeing_pegs(Thing(ROW, pegs), 'a'), [tuple('stuvwxyz')])

    def test_unknown_names(self):
        for value in WRONG_NAMES:
            self.assertEqual(caught(freeing_pegs, KEPT, value), ('UnknownName', {'name': value}))

    def test_returned_lists_are_new(self):
        freeing_pegs(KEPT, 'x').clear()
        self.assertEqual(freeing_pegs(KEPT, 'x'), [('glue',)])


class EqualCallTests(unittest.TestCase):
    def test_equal_things(self):
        other = Thing(ROW[::-1], [GLUE, HELD, PIN])
        self.assertEqual(heirs(PEGGED_ROW, other), heirs(other, PEGGED_ROW))
        self.assertEqual(freeing_pegs(PEGGED_ROW, 'b'), freeing_pegs(other, 'b'))
        self.assertIs(still_holds(PEGGED_ROW, other, 'a', paper_of(other, 'd')), True)


if __name__ == '__main__':
    unittest.main()
