import random
import unittest

from samples import any_values, box, caught
from stucklots.pegs import Peg
from stucklots.pieces import Piece
from stucklots.things import Thing

WHYS = ('form', 'loose', 'many', 'order', 'double', 'unknown', 'overlap')
THING = Thing(
    [Piece('b', [box(2, 0), box(4, 0)]), Piece('a', [box(0, 0)]), Piece('c', [((0, 2), (2, 2), (0, 4))])],
    [Peg('pin', 'b', 'a', [((1, 1), (0, 1)), ((3, -1), (-2, -3))]), Peg('glue', 'c', 'a')],
)
LINES = [
    'thing',
    'piece a',
    'part 0 0 2 0 2 2 0 2',
    'piece b',
    'part 2 0 4 0 4 2 2 2',
    'part 4 0 6 0 6 2 4 2',
    'piece c',
    'part 0 2 2 2 0 4',
    'peg glue a c',
    'peg pin a b',
    'way 1 1 0 1',
    'way 3 -1 -2 -3',
    'end',
]


def text_of(lines):
    return ''.join(line + '\n' for line in lines)


def part_line(x, y):
    return 'part ' + ' '.join(str(number) for corner in box(x, y) for number in corner)


def row_lines(many):
    """The lines of pieces with names from a on, each of one part."""
    lines = []
    for at in range(many):
        lines += ['piece ' + 'abcdefghijkl'[at], part_line(2 * at, 0)]
    return lines


class TextTests(unittest.TestCase):
    def test_text(self):
        self.assertEqual(THING.text(), text_of(LINES))
        self.assertEqual(Thing([Piece('a', [box(-3, -2)])]).text(), 'thing\npiece a\npart -3 -2 -1 -2 -1 0 -3 0\nend\n')

    def test_parts_as_they_are_told_and_ways_in_their_order(self):
        part = ((5, 5), (0, 5), (0, 0), (5, 0))
        ways = [((9, 9), (1, 0)), ((0, 0), (0, -1)), ((9, 9), (1, 0))]
        thing = Thing([Piece('z', [part]), Piece('y', [box(5, 0)])], [Peg('q', 'z', 'y', ways), Peg('p', 'z', 'y')])
        self.assertEqual(thing.text(), 'thing\npiece y\npart 5 0 7 0 7 2 5 2\npiece z\npart 0 0 5 0 5 5 0 5\n'
                                       'peg p y z\npeg q y z\nway 9 9 1 0\nway 0 0 0 -1\nway 9 9 1 0\nend\n')

    def test_there_and_back(self):
        for thing in [THING, THING.turned(), THING.mirrored(), THING.moved(-150, 150), THING.without_piece('a'),
                      THING.part_of(['c']), THING.without_peg('glue').turned(3)]:
            found = Thing.read(thing.text())
            self.assertEqual(found, thing)
            self.assertEqual(found.text(), thing.text())
            self.assertIsInstance(found, Thing)

    def test_by_name(self):
        self.assertEqual(Thing.read(text=THING.text()), THING)

    def test_the_most_of_all(self):
        lines = ['thing', 'piece a', *[part_line(2 * at, 2) for at in range(4)], *row_lines(9)[2:]]
        for at in range(8):
            lines += ['peg ' + 'nopqrstu'[at] + ' a b'] + ['way 0 0 1 0'] * 3
        self.assertEqual(Thing.read(text_of(lines + ['end'])).text(), text_of(lines + ['end']))

    def test_values_that_are_no_strings(self):
        for value in any_values() + [0, THING, [THING.text()], LINES, tuple(LINES)]:
            if not isinstance(value, str):
                self.assertEqual(caught(Thing.read, value), ('InvalidText', {'line': 0, 'why': 'form'}))


class WrongLineTests(unittest.TestCase):
    def check(self, lines, line, why):
        found = caught(Thing.read, text_of(lines))
        self.assertEqual(found, ('InvalidText', {'line': line, 'why': why}), lines)

    def replaced(self, at, line, why='form'):
        self.check(LINES[:at] + [line] + LINES[at + 1:], at, why)

    def test_blanks_and_words(self):
        for at, line in enumerate(LINES):
            for wrong in ['', ' ', ' ' + line, line + ' ', line.replace(' ', '  ', 1) + ' ', line + ' x', line.upper(),
                          line + ' 0', line[1:], 'x' + line, line + '\r', line.replace(' ', '\t') + '\t']:
                self.replaced(at, wrong)

    def test_double_blanks(self):
        for at, line in enumerate(LINES):
            if ' ' in line:
                self.replaced(at, line.replace(' ', '  ', 1))
                self.replaced(at, line.rsplit(' ', 1)[0] + '  ' + line.rsplit(' ', 1)[1])

    def test_where_each_line_may_stand(self):
        may = {0: ['thing'], 1: ['piece'], 2: ['part'], 3: ['part', 'piece', 'peg', 'end'], 4: ['part'],
               7: ['part'], 8: ['part', 'piece', 'peg', 'end'], 9: ['way', 'peg', 'end'], 10: ['way', 'peg', 'end'],
               11: ['way', 'peg', 'end'], 12: ['way', 'peg', 'end'], 13: []}
        fitting = {'thing': 'thing', 'piece': 'piece zz', 'part': part_line(100, 100), 'peg': 'peg zzz a b',
                   'way': 'way 0 0 1 0', 'end': 'end'}
        for at, words in may.items():
            for word, line in fitting.items():
                found = caught(Thing.read, text_of(LINES[:at] + [line]))
                wrong = ('InvalidText', {'line': at, 'why': 'form'})
                if word in words:
                    self.assertNotEqual(found, wrong, (at, line))
                else:
                    self.assertEqual(found, wrong, (at, line))

    def test_names(self):
        for name in ['A', 'seventh', 'a1', 'a-b', '', '0', 'a,']:
            self.replaced(1, 'piece ' + name)
            self.replaced(8, f'peg {name} a c')
            self.replaced(8, f'peg glue {name} c')
            self.replaced(8, f'peg glue a {name}')
        self.replaced(1, 'piece')
        self.replaced(8, 'peg glue a')
        self.replaced(8, 'peg glue a b c')

    def test_each_word_has_its_own_further_words(self):
        further = {'thing': '', 'piece': ' a', 'peg': ' glue a c', 'way': ' 1 1 0 1', 'part': ' 0 0 2 0 2 2 0 2', 'end': ''}
        places = {'thing': 0, 'piece': 1, 'part': 2, 'peg': 8, 'way': 10, 'end': 12}
        for word, at in places.items():
            for other, words in further.items():
                if words != further[word]:
                    self.replaced(at, word + words)
            self.replaced(at, 'x' + further[word])

    def test_one_is_less_than_other(self):
        self.replaced(8, 'peg glue c a')
        self.replaced(8, 'peg glue a a')
        self.replaced(8, 'peg glue z y')

    def test_parts(self):
        for wrong in ['part', 'part 0 0 2 0 2 2 0', 'part 0 0 2 0 2 2 0 2 0', 'part 0 0 2 0', 'part 2 0 2 2 0 2 0 0',
                      'part 0 0 0 2 2 2 2 0', 'part 0 0 1 0 2 0 0 2', 'part 00 0 2 0 2 2 0 2', 'part -0 0 2 0 2 2 0 2',
                      'part +0 0 2 0 2 2 0 2', 'part 0 0 2 0 2 2 0 2.0', 'part 0 0 201 0 0 2', 'part -201 0 2 0 0 2',
                      'part 0 0 2 0 0 1000000000', 'part 0 0 x 0 0 2', 'part 0,0 2,0 0,2', 'part a',
                      'part 0 0 2 0 4 1 5 3 4 5 2 6 -1 3', 'part -1 3 0 0 2 0 4 1 5 3 4 5 2 6']:
            self.replaced(2, wrong)

    def test_ways(self):
        for wrong in ['way', 'way 1 1 0', 'way 1 1 0 1 1', 'way 1 1 0 0', 'way 1 1 0 2', 'way 1 1 1000 1', 'way 201 1 0 1',
                      'way 1 -201 0 1', 'way 1 1 -0 1', 'way 01 1 0 1', 'way 1 1 x 1', 'way 1 1 0 1 2 2', 'way 1 1']:
            self.replaced(10, wrong)

    def test_nothing_stands_behind_end(self):
        for further in ['', 'end', 'thing', 'x', 'way 0 0 1 0', 'piece z', 'peg z a b']:
            self.check(LINES + [further], 13, 'form')
            self.check(LINES + [further, 'more'], 13, 'form')
        for rest in ['x', ' ', 'end']:
            found = caught(Thing.read, text_of(LINES) + rest)
            self.assertEqual(found, ('InvalidText', {'line': 13, 'why': 'form'}))
        self.check(LINES + LINES, 13, 'form')

    def test_a_line_that_lacks_its_line_feed(self):
        for at, line in enumerate(LINES):
            for rest in {line, line[:1], ' ', 'x'}:
                found = caught(Thing.read, text_of(LINES[:at]) + rest)
                self.assertEqual(found, ('InvalidText', {'line': at, 'why': 'form'}))

    def test_texts_that_end_too_early(self):
        for at in range(len(LINES)):
            self.check(LINES[:at], at, 'missing')
        self.assertEqual(caught(Thing.read, ''), ('InvalidText', {'line': 0, 'why': 'missing'}))

    def test_ending_behind_loose_parts(self):
        self.check(['thing', 'piece a', part_line(0, 0), part_line(9, 0)], 4, 'missing')

    def test_an_earlier_wrong_line_counts(self):
        self.check(LINES[:8] + ['peg a a b', 'x'], 8, 'double')
        found = caught(Thing.read, text_of(LINES[:8] + ['peg a a b']) + 'x')
        self.assertEqual(found, ('InvalidText', {'line': 8, 'why': 'double'}))

    def test_loose(self):
        loose = ['thing', 'piece b', part_line(0, 0), part_line(9, 0)]
        for line in ['piece c', 'end', 'peg pin b c', 'piece a', 'peg b b c']:
            self.check(loose + [line], 4, 'loose')
        self.check(loose + ['piece C'], 4, 'form')
        self.check(loose + ['way 0 0 1 0'], 4, 'form')
        self.check(loose + [part_line(2, 0)], 4, 'order')
        self.check(loose + [part_line(11, 0), 'end'], 5, 'loose')

    def test_loose_at_a_corner_alone(self):
        self.check(['thing', 'piece a', part_line(0, 0), part_line(2, 2), 'end'], 4, 'loose')

    def test_parts_that_hang_together_only_in_the_end(self):
        lines = ['thing', 'piece a', part_line(0, 0), part_line(4, 0), 'part 0 2 6 2 6 4 0 4', 'end']
        self.check(lines, 4, 'order')
        lines = ['thing', 'piece a', part_line(0, 0), 'part 1 2 6 2 6 4 1 4', part_line(4, 0), 'end']
        self.assertEqual(len(Thing.read(text_of(lines)).piece('a')), 3)
        lines = ['thing', 'piece a', part_line(0, 0), part_line(2, 2), 'part 2 0 4 0 4 2 2 2', 'end']
        self.check(lines, 4, 'order')
        lines = ['thing', 'piece a', part_line(0, 0), part_line(2, 2), part_line(4, 2), 'part 5 0 7 0 7 2 5 2', 'end']
        self.check(lines, 6, 'loose')
        lines = ['thing', 'piece a', part_line(0, 0), 'part 1 4 9 4 9 6 1 6', 'part 2 0 4 0 4 4 2 4', 'end']
        self.assertEqual(Thing.read(text_of(lines)).text(), text_of(lines))

    def test_many_pieces(self):
        self.check(['thing', *row_lines(10), 'end'], 19, 'many')
        self.check(['thing', *row_lines(9), 'piece a'], 19, 'many')
        self.check(['thing', *row_lines(9), 'piece A'], 19, 'form')
        self.check(['thing', *row_lines(9), part_line(100, 100), 'piece zz'], 20, 'loose')

    def test_many_parts(self):
        row = ['thing', 'piece a', *[part_line(2 * at, 0) for at in range(4)]]
        self.check(row + [part_line(8, 0), 'end'], 6, 'many')
        self.check(row + [part_line(0, 0)], 6, 'many')
        self.check(row + [part_line(1, 0)], 6, 'many')
        loose = ['thing', 'piece a', *[part_line(9 * at, 0) for at in range(4)]]
        self.check(loose + [part_line(50, 0)], 6, 'many')
        self.check(loose + ['part 0'], 6, 'form')

    def test_many_pegs(self):
        lines = ['thing', *row_lines(2), *['peg ' + name + ' a b' for name in 'nopqrstu']]
        self.assertIsNone(caught(Thing.read, text_of(lines + ['end'])))
        for line in ['peg v a b', 'peg n a b', 'peg a a b', 'peg v a x']:
            self.check(lines + [line], 13, 'many')
        self.check(lines + ['peg v b a'], 13, 'form')

    def test_many_ways(self):
        lines = ['thing', *row_lines(2), 'peg n a b', *['way 0 0 1 0'] * 3]
        self.check(lines + ['way 0 0 1 0'], 9, 'many')
        self.check(lines + ['way 0 0 2 0'], 9, 'form')
        self.assertIsNone(caught(Thing.read, text_of(lines + ['peg o a b', 'way 0 0 1 0', 'end'])))

    def test_order_of_pieces(self):
        self.replaced(3, 'piece a', 'order')
        self.replaced(6, 'piece b', 'order')
        self.replaced(6, 'piece aa', 'order')

    def test_order_of_parts(self):
        self.replaced(5, LINES[4], 'order')
        self.replaced(5, part_line(0, 0), 'order')
        self.replaced(5, 'part 2 0 3 0 3 1 2 1', 'order')
        lines = ['thing', 'piece a', part_line(9, 9), 'piece b', part_line(0, 0), 'end']
        self.assertIsNone(caught(Thing.read, text_of(lines)))

    def test_order_of_pegs(self):
        self.replaced(9, 'peg glue a b', 'order')
        self.replaced(9, 'peg a a x', 'order')
        self.check(LINES[:8] + ['peg pin a b', 'way 0 0 1 0', 'peg glue a c'], 10, 'order')

    def test_double(self):
        self.replaced(8, 'peg a a c', 'double')
        self.replaced(8, 'peg b a x', 'double')

    def test_unknown(self):
        for pair in ['a x', 'x y', 'aa b', 'a glue']:
            self.replaced(8, 'peg glue ' + pair, 'unknown')
        self.check(LINES[:10] + ['peg q a pin'], 10, 'unknown')

    def test_overlap(self):
        self.replaced(5, 'part 3 0 6 0 6 2 3 2', 'overlap')
        self.replaced(7, 'part 0 1 2 2 0 4', 'overlap')
        self.replaced(7, 'part -9 -9 99 -9 99 99 -9 99', 'overlap')
        self.replaced(7, LINES[2], 'overlap')

    def test_texts_with_changes_by_chance(self):
        chance = random.Random(8)
        seen = set()
        for _ in range(1500):
            lines = list(LINES)
            for _ in range(chance.randint(1, 2)):
                self.change(chance, lines)
            found = caught(Thing.read, text_of(lines))
            if found is None:
                self.assertEqual(Thing.read(text_of(lines)).text(), text_of(lines))
                continue
            line, why = found[1]['line'], found[1]['why']
            seen.add(why)
            if why == 'missing':
                self.assertEqual(line, len(lines))
            else:
                self.assertIn(why, WHYS)
                # The lines ahead of the first wrong one can all stand.
                ahead = caught(Thing.read, text_of(lines[:line]))
                self.assertIn(ahead, (None, ('InvalidText', {'line': line, 'why': 'missing'})))
        self.assertGreaterEqual(len(seen), 6)

    def change(self, chance, lines):
        at = chance.randrange(len(lines))
        kind = chance.randrange(5)
        if kind == 0:
            lines[at:at + 1] = lines[at:at + 1] * chance.choice([0, 2])
        elif kind == 1:
            other = chance.randrange(len(lines))
            lines[at], lines[other] = lines[other], lines[at]
        elif kind == 2:
            words = lines[at].split(' ')
            words[chance.randrange(len(words))] = chance.choice(['a', 'b', 'c', 'd', 'glue', 'x', '0', '2', '4', '-1', ''])
            lines[at] = ' '.join(words)
        elif kind == 3:
            lines[at] = chance.choice(LINES)
        else:
            words = lines[at].split(' ')
            spots = [spot for spot, word in enumerate(words) if word.lstrip('-').isdigit()]
            if spots:
                spot = chance.choice(spots)
                words[spot] = str(int(words[spot]) + chance.choice([-2, -1, 1, 2]))
            lines[at] = ' '.join(words)


if __name__ == '__main__':
    unittest.main()
