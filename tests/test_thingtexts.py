import random
import unittest

from reference_texts import first_fault, told, words_for
from samples import any_values, box, caught, random_thing
from stucklots.pegs import Peg
from stucklots.pieces import Piece
from stucklots.things import Thing
from stucklots.thingtexts import read_thing, read_thing_head, thing_text

WORDS = ['form', 'loose', 'many', 'order', 'double', 'unknown', 'overlap']
THING = Thing(
    [Piece('b', [box(2, 0), box(4, 0)]), Piece('a', [box(0, 0)]), Piece('c', [((0, 2), (2, 2), (0, 4))])],
    [Peg('pin', 'b', 'a', [((1, 1), (0, 1)), ((3, -1), (-2, -3))]), Peg('glue', 'c', 'a')],
)
TEXT = ('thing\npiece a\npart 0 0 2 0 2 2 0 2\npiece b\npart 2 0 4 0 4 2 2 2\npart 4 0 6 0 6 2 4 2\npiece c\n'
        'part 0 2 2 2 0 4\npeg glue a c\npeg pin a b\nway 1 1 0 1\nway 3 -1 -2 -3\nend\n')
LINES = TEXT.split('\n')[:-1]
BEHIND = ['', '\n', ' ', 'x', 'thing\n', TEXT, 'end\n', 'draw a\ndone\n', 'done', '\n\n\n', 'way 0 0 1 0\n', 'piece z\npart']


def text_of(lines):
    return ''.join(line + '\n' for line in lines)


def part_line(x, y):
    return 'part ' + ' '.join(str(number) for corner in box(x, y) for number in corner)


def pieces_named(names):
    """The lines of pieces of one part each, side by side."""
    return [line for at, name in enumerate(names) for line in (f'piece {name}', part_line(2 * at, 0))]


def pegs_named(names):
    return [f'peg {name} a b' for name in names]


def big_thing(pieces, pegs):
    """A thing with so many pieces and pegs."""
    made = [Piece('abcdefghi'[at], [box(3 * at, 0, 3, at + 1)]) for at in range(pieces)]
    tied = [Peg('stuvwxyz'[at], 'a', 'abcdefghi'[1 + at % (pieces - 1)], [((at, -at), (1, at))] * (at % 4))
            for at in range(pegs)]
    return Thing(made, tied)


class ThereAndBackTests(unittest.TestCase):
    def check(self, thing):
        text = thing_text(thing)
        self.assertEqual(text, thing.text())
        found = read_thing(text)
        self.assertIsInstance(found, Thing)
        self.assertEqual(found, thing)
        self.assertEqual(thing_text(found), text)
        self.assertEqual(Thing.read(text), thing)
        for behind in BEHIND:
            self.assertEqual(read_thing_head(text + behind), (thing, text.count('\n')))

    def test_the_text(self):
        self.assertEqual(thing_text(THING), TEXT)
        self.assertEqual(thing_text(thing=THING), TEXT)
        self.assertEqual([read_thing(text=TEXT), read_thing_head(text=TEXT)], [THING, (THING, 13)])
        self.assertIsInstance(read_thing_head(TEXT), tuple)

    def test_one_to_nine_pieces_and_up_to_eight_pegs(self):
        self.check(Thing([Piece('a', [box(-200, -200)])]))
        for pieces in range(2, 10):
            for pegs in range(9):
                self.check(big_thing(pieces, pegs))

    def test_by_chance(self):
        chance = random.Random(31)
        for _ in range(25):
            thing = random_thing(chance, 9, 8)
            self.check(thing)
            self.check(thing.turned(chance.randrange(4)).moved(-100, 50))
            self.check(thing.mirrored())

    def test_values_that_are_no_strings(self):
        for value in any_values() + [0, 5, THING, LINES, tuple(LINES), [TEXT], (TEXT,), {TEXT: TEXT}]:
            if not isinstance(value, str):
                for call in (read_thing, read_thing_head):
                    self.assertEqual(caught(call, value), ('InvalidText', {'line': 0, 'why': 'form'}))


class FaultTests(unittest.TestCase):
    def check(self, text):
        """Reads a text, and the head of it, and holds both against the slow reading."""
        fault = first_fault(text)
        found = caught(read_thing, text)
        if isinstance(fault, tuple):
            self.assertEqual(found, ('InvalidText', dict(zip(('line', 'why'), fault))), text)
            self.assertEqual(caught(Thing.read, text), found)
        else:
            self.assertIsNone(found, text)
            self.assertEqual(thing_text(read_thing(text)), text)
        head = first_fault(text, head=True)
        found = caught(read_thing_head, text)
        if isinstance(head, tuple):
            self.assertEqual(found, ('InvalidText', dict(zip(('line', 'why'), head))), text)
            self.assertEqual(head, fault)
        else:
            self.assertIsNone(found, text)
            thing, lines = read_thing_head(text)
            self.assertEqual((lines, thing_text(thing)), (head, text_of(text.split('\n')[:lines])))
        return fault[1] if isinstance(fault, tuple) else None

    def test_lines_left_out_doubled_and_cut_off(self):
        for at in range(len(LINES)):
            self.check(text_of(LINES[:at] + LINES[at + 1:]))
            self.check(text_of(LINES[:at + 1] + LINES[at:]))
            self.assertEqual(self.check(text_of(LINES[:at])), 'missing')
            self.assertEqual(self.check(text_of(LINES[:at]) + LINES[at]), 'form')
            self.assertEqual(self.check(text_of(LINES[:at]) + 'x'), 'form')
            self.check(text_of(LINES[at:]))
        self.assertEqual(caught(read_thing, ''), ('InvalidText', {'line': 0, 'why': 'missing'}))
        self.assertEqual(caught(read_thing_head, ''), ('InvalidText', {'line': 0, 'why': 'missing'}))

    def test_lines_exchanged(self):
        for at in range(len(LINES)):
            for other in range(at):
                lines = list(LINES)
                lines[at], lines[other] = lines[other], lines[at]
                self.check(text_of(lines))

    def test_lines_put_in(self):
        lines = LINES + ['', 'piece d', 'piece aa', part_line(100, 100), part_line(1, 1), part_line(6, 0), 'peg q a b',
                         'peg glue b c', 'peg h b x', 'peg c a b', 'way 0 0 0 -1', 'part 1', 'turn 1 0', 'done']
        for line in lines:
            for at in range(len(LINES) + 1):
                self.check(text_of(LINES[:at] + [line] + LINES[at:]))

    def test_signs_behind_the_end_and_behind_the_last_line_feed(self):
        for behind in BEHIND[1:]:
            self.assertEqual(caught(read_thing, TEXT + behind), ('InvalidText', {'line': 13, 'why': 'form'}))
            self.assertEqual(read_thing_head(TEXT + behind), (THING, 13))
            self.check(TEXT + behind)
        for text in (TEXT[:-1], TEXT[:-1] + ' ', TEXT[:-1] + ' \n', TEXT[:-1] + 's\n' + TEXT):
            self.assertEqual(caught(read_thing_head, text), ('InvalidText', {'line': 12, 'why': 'form'}))
            self.check(text)

    def test_by_chance(self):
        chance = random.Random(32)
        seen = set()
        texts = [TEXT, thing_text(big_thing(9, 8)), thing_text(random_thing(chance, 4, 3))]
        for _ in range(400):
            lines = chance.choice(texts).split('\n')[:-1]
            for _ in range(chance.randint(1, 2)):
                self.change(chance, lines)
            seen.add(self.check(text_of(lines)))
        self.assertLessEqual({None, 'missing', 'form', 'loose', 'many', 'order', 'unknown', 'overlap'}, seen)

    def change(self, chance, lines):
        at, other = chance.randrange(len(lines)), chance.randrange(len(lines))
        words = lines[at].split(' ')
        spot = chance.randrange(len(words))
        kind = chance.randrange(6)
        if kind == 0:
            lines[at:at + 1] = lines[at:at + 1] * chance.choice([0, 2]) or ['end']
        elif kind == 1:
            lines[at], lines[other] = lines[other], lines[at]
        elif kind == 2:
            lines.insert(at, lines[other])
        elif kind == 3:
            words[spot] = chance.choice(['a', 'b', 'z', 's', 'x', '0', '2', '-1', '201', '', '00', '-0', '+1'])
            lines[at] = ' '.join(words)
        elif kind == 4 and words[spot].lstrip('-').isdigit():
            words[spot] = str(int(words[spot]) + chance.choice([-2, -1, 1, 2]))
            lines[at] = ' '.join(words)
        else:
            del lines[len(lines) - chance.randrange(3):]
            lines.append(chance.choice(['end', 'piece zz', part_line(50, 50), 'peg zz a b', 'way 0 0 1 0']))


class TwoWordsTests(unittest.TestCase):
    """Each two words that can apply to one line: the first one is told."""

    loose = ['thing', 'piece a', part_line(0, 0), part_line(9, 9)]
    nine = ['thing', *pieces_named('abcdefghi')]
    loose_nine = nine[:-1] + [part_line(50, 0), part_line(60, 0)]
    four = ['thing', 'piece a', *[part_line(2 * at, 0) for at in range(4)]]
    loose_four = ['thing', 'piece a', *[part_line(9 * at, 0) for at in range(4)]]
    two = ['thing', *pieces_named('ab')]
    pegs = two + pegs_named('stuvwxyz')

    def check(self, lines, line, *words):
        """The line has these words, the first of which is told, whatever stands behind it."""
        rows = [told(ahead) for ahead in lines]
        if words[0] != 'form':
            self.assertEqual(words_for(rows, told(line)), list(words))
        self.assertEqual(list(words), [word for word in WORDS if word in words])
        for behind in ([], ['end'], ['x'], [line]):
            for call in (read_thing, read_thing_head):
                found = caught(call, text_of(lines + [line] + behind))
                self.assertEqual(found, ('InvalidText', {'line': len(lines), 'why': words[0]}), line)

    def test_form_ahead_of_the_others(self):
        self.check(self.loose, 'piece A', 'form', 'loose')
        self.check(self.loose, 'end ', 'form', 'loose')
        self.check(self.nine, 'piece j1', 'form', 'many')
        self.check(self.four, 'part 8 0 10 0 10 2 8 2 9', 'form', 'many')
        self.check(self.pegs, 'peg zz b a', 'form', 'many')
        self.check(self.two, 'piece ', 'form', 'order')
        self.check(self.two[:3], 'part 2 0 2 2 0 2 0 0', 'form', 'order', 'overlap')
        self.check(self.two, 'peg a b a', 'form', 'double')
        self.check(self.two, 'peg c x b', 'form', 'unknown')
        self.check(self.two[:4], 'part 3 0 3 1 1 1 1 0', 'form', 'overlap')

    def test_loose_ahead_of_the_others(self):
        self.check(self.loose, 'piece b', 'loose')
        self.check(self.loose, 'end', 'loose')
        self.check(self.loose_nine, 'piece j', 'loose', 'many')
        self.check(self.loose, 'piece a', 'loose', 'order')
        self.check(self.loose_nine, 'piece b', 'loose', 'many', 'order')
        self.check(['thing', *pieces_named('ab'), part_line(30, 30)], 'peg b a b', 'loose', 'double')
        self.check(self.loose, 'peg b a c', 'loose', 'unknown')
        self.check(self.loose, 'peg a a c', 'loose', 'double', 'unknown')

    def test_many_ahead_of_the_others(self):
        self.check(self.nine, 'piece j', 'many')
        self.check(self.four, part_line(8, 0), 'many')
        self.check(self.pegs, 'peg zz a b', 'many')
        self.check(self.two + ['peg s a b', *['way 0 0 1 0'] * 3], 'way 0 0 1 0', 'many')
        self.check(self.nine, 'piece i', 'many', 'order')
        self.check(self.four, part_line(0, 5), 'many', 'order')
        self.check(self.pegs, 'peg s a b', 'many', 'order')
        self.check(self.pegs, 'peg a a b', 'many', 'order', 'double')
        self.check(self.pegs, 'peg zz a x', 'many', 'unknown')
        self.check(self.four, part_line(7, 1), 'many', 'overlap')
        self.check(self.four, part_line(0, 0), 'many', 'order', 'overlap')
        # A fifth part is a part of the piece, so what stands ahead of it is not the last one.
        self.check(self.loose_four, part_line(50, 0), 'many')
        names = ['thing', *pieces_named(['a', 'b', 'zz'])] + pegs_named('stuvwxyz')
        self.check(names, 'peg zz a b', 'many', 'double')

    def test_order_ahead_of_the_others(self):
        self.check(self.two, 'piece a', 'order')
        self.check(self.two + pegs_named('s'), 'peg s a b', 'order')
        self.check(self.two + pegs_named('s'), 'peg a a b', 'order', 'double')
        self.check(self.two + pegs_named('s'), 'peg r a x', 'order', 'unknown')
        self.check(self.two + pegs_named('s'), 'peg b x y', 'order', 'double', 'unknown')
        self.check(self.two, part_line(2, 0), 'order', 'overlap')
        self.check(self.two, part_line(0, 1), 'order', 'overlap')
        self.check(self.two, part_line(0, 9), 'order')

    def test_the_last_three(self):
        self.check(self.two, 'peg a a b', 'double')
        self.check(self.two, 'peg b a x', 'double', 'unknown')
        self.check(self.two, 'peg s a x', 'unknown')
        self.check(self.two, 'peg s x y', 'unknown')
        self.check(self.two, part_line(3, 1), 'overlap')
        self.check(self.two + ['piece c'], part_line(1, 1), 'overlap')


if __name__ == '__main__':
    unittest.main()
