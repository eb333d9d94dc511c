"""The examples of the document, as far as they need no later module."""

import unittest

from samples import caught
from stucklots.pegs import Peg
from stucklots.pieces import Piece
from stucklots.things import Thing


class ExampleTests(unittest.TestCase):
    def test_three_squares_do_not_overlap(self):
        a = Piece('a', [((0, 0), (2, 0), (2, 2), (0, 2))])
        b = Piece('b', [((2, 0), (4, 0), (4, 2), (2, 2))])
        c = Piece('c', [((2, 2), (4, 2), (4, 4), (2, 4))])
        self.assertEqual([a.overlaps(b), a.overlaps(c), b.overlaps(a)], [False, False, False])

    def test_the_groove(self):
        groove = Piece('g', [((0, 0), (6, 0), (6, 2), (0, 2)), ((0, 2), (2, 2), (2, 6), (0, 6)),
                             ((4, 2), (6, 2), (6, 6), (4, 6))])
        tongue = Piece('t', [((2, 2), (4, 2), (4, 6), (2, 6))])
        self.assertEqual([groove.area, len(groove), groove.overlaps(tongue)], [56, 3, False])

    def test_the_frame(self):
        frame = Piece('f', [((0, 0), (8, 0), (8, 2), (0, 2)), ((0, 6), (8, 6), (8, 8), (0, 8)),
                            ((0, 2), (2, 2), (2, 6), (0, 6)), ((6, 2), (8, 2), (8, 6), (6, 6))])
        inner = Piece('i', [((3, 3), (5, 3), (5, 5), (3, 5))])
        self.assertEqual(Thing([frame, inner]).names(), ['f', 'i'])

    def test_four_pieces_and_a_pin(self):
        a = Piece('a', [((0, 0), (2, 0), (2, 8), (0, 8)), ((2, 0), (18, 0), (18, 2), (2, 2)),
                        ((2, 4), (10, 4), (10, 6), (2, 6)), ((4, 6), (6, 6), (6, 8), (4, 8))])
        b = Piece('b', [((2, 6), (4, 6), (4, 8), (2, 8))])
        c = Piece('c', [((0, 8), (18, 8), (18, 10), (0, 10)), ((10, 2), (12, 2), (12, 8), (10, 8)),
                        ((6, 2), (10, 2), (10, 4), (6, 4)), ((14, 2), (16, 2), (16, 8), (14, 8))])
        d = Piece('d', [((12, 2), (14, 2), (14, 8), (12, 8))])
        thing = Thing([a, b, c, d], [Peg('pin', 'b', 'a', [((3, 8), (0, 1))])])
        self.assertEqual(repr(thing), 'Thing(4 pieces, 1 pegs)')
        # The pin is held: of all pieces c alone lies above it.
        way = thing.peg_called('pin').ways()[0]
        self.assertEqual([piece.bars_way(way) for piece in thing.pieces()], [False, False, True, False])
        self.assertEqual(Thing.read(thing.text()), thing)

    def test_loose_triangles(self):
        found = caught(Piece, 'a', [((0, 0), (1, 0), (0, 1)), ((5, 5), (6, 5), (5, 6))])
        self.assertEqual(found, ('Loose', {'at': 1}))


if __name__ == '__main__':
    unittest.main()
