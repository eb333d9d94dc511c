"""The examples of the document."""

import unittest

from samples import FRAME, GROOVE, HOOKS, INNER, TONGUE, caught
from stucklots.bars import arc_of
from stucklots.clumps import clumps
from stucklots.compass import compass
from stucklots.instructions import plain_steps, run, shortened, turnings
from stucklots.pegs import Peg
from stucklots.pieces import Piece
from stucklots.singles import kernel
from stucklots.spares import price_of
from stucklots.states import State
from stucklots.things import Thing
from stucklots.turnings import turning_row


class ExampleTests(unittest.TestCase):
    def test_three_squares(self):
        a = Piece('a', [((0, 0), (2, 0), (2, 2), (0, 2))])
        b = Piece('b', [((2, 0), (4, 0), (4, 2), (2, 2))])
        c = Piece('c', [((2, 2), (4, 2), (4, 4), (2, 4))])
        self.assertEqual([a.overlaps(b), a.overlaps(c), b.overlaps(a)], [False, False, False])
        self.assertEqual([arc_of(a, b).ends(), arc_of(a, c).ends(), arc_of(b, a).ends()],
                         [[(0, -1), (0, 1)], [(1, 0), (0, 1)], [(0, 1), (0, -1)]])

    def test_tongue_and_groove(self):
        arc = arc_of(TONGUE, GROOVE)
        self.assertEqual([arc.ends(), len(arc), (0, 1) in arc, (1, 0) in arc, GROOVE.area], [[(0, 1)], 1, False, True, 56])

    def test_the_frame(self):
        thing = Thing([FRAME, INNER])
        self.assertEqual(thing.names(), ['f', 'i'])
        self.assertEqual([compass(thing), clumps(thing)], [[(1, 0)], [(('f', 'i'), ())]])

    def test_four_pieces(self):
        thing = Thing(HOOKS)
        prices = {'a': 1, 'b': 1, 'c': 9, 'd': 4}
        self.assertEqual([clumps(thing), kernel(thing), turning_row(thing), price_of(thing, 'd', prices),
                          price_of(thing, 'd', prices, only=(1, 0))],
                         [[(('a',), ()), (('b',), ()), (('c',), ()), (('d',), ())], (['a', 'b', 'c', 'd'], []), [(1, 0), (0, 1)], 6, 13])

    def test_instructions(self):
        text = 'turn 0 1\nturn -1 0\nlet two a b\npart +two\nturn 0 1\npart b\npart c\n'
        self.assertEqual([len(run(Thing(HOOKS), text)), shortened(text), turnings(plain_steps(text))],
                         [4, 'turn -1 0\npart a b\nturn 0 1\npart b\npart c\n', 2])

    def test_four_pieces_and_a_pin(self):
        thing = Thing(HOOKS, [Peg('pin', 'b', 'a', [((3, 8), (0, 1))])])
        self.assertEqual(repr(thing), 'Thing(4 pieces, 1 pegs)')
        state = State(thing).after(('part', (-1, 0), ('a', 'b')))
        self.assertEqual([len(state), state.fast(), state.after(('draw', 'pin')).fast()], [2, ['pin'], []])
        self.assertEqual(caught(State(thing).after, ('draw', 'pin')), ('Held', {'peg': 'pin'}))
        # The pin is held: of all pieces c alone lies above it.
        way = thing.peg_called('pin').ways()[0]
        self.assertEqual([piece.bars_way(way) for piece in thing.pieces()], [False, False, True, False])
        self.assertEqual(Thing.read(thing.text()), thing)

    def test_loose_triangles(self):
        found = caught(Piece, 'a', [((0, 0), (1, 0), (0, 1)), ((5, 5), (6, 5), (5, 6))])
        self.assertEqual(found, ('Loose', {'at': 1}))


if __name__ == '__main__':
    unittest.main()
