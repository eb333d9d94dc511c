import itertools
import random
import unittest

from reference_papers import look_by_words
from samples import DOWN, FRAME, GROOVE, INNER, LEFT, PEGGED_ROW, RIGHT, TONGUE, UP, any_values, box, random_thing
from stucklots.clumps import clumps, played, taken_apart
from stucklots.lots import Lot
from stucklots.papers import look, paper_text
from stucklots.pegs import Peg
from stucklots.pieces import Piece
from stucklots.states import State
from stucklots.stuck import is_stuck_paper
from stucklots.things import Thing

CUP = Thing([GROOVE, TONGUE])
# The frame keeps its inner piece, with a peg of two ways and with glue; x leaves, when its pin is drawn.
KEPT = Thing([FRAME, INNER, Piece('x', [box(8, 0, 2, 8)])],
             [Peg('glue', 'f', 'i'), Peg('held', 'f', 'i', [((4, 4), UP), ((0, 1), RIGHT)]), Peg('pin', 'f', 'x', [((8, 8), UP)])])
PAPER = paper_text(KEPT)
LINES = PAPER.split('\n')[:-1]
HEAD = LINES.index('end') + 1


def text_of(lines):
    return ''.join(line + '\n' for line in lines)


def changed(at, *lines):
    """The paper of KEPT with the line at so many lines behind the thing replaced by others."""
    return text_of(LINES[:HEAD + at] + list(lines) + LINES[HEAD + at + 1:])


class PaperTests(unittest.TestCase):
    def test_the_text(self):
        self.assertEqual(LINES[HEAD:], [
            'draw pin', 'part 3 5 x',
            'clump f i', 'walk 1 0 f i f', 'bar held 0 f', 'bar held 1 f',
            'clump x', 'walk 1 0 x', 'done',
        ])
        self.assertEqual(text_of(LINES[:HEAD]), KEPT.text())
        self.assertEqual(paper_text(CUP), CUP.text() + 'part 0 1 t\nclump g\nwalk 1 0 g\nclump t\nwalk 1 0 t\ndone\n')
        self.assertEqual(paper_text(Thing([TONGUE])), Thing([TONGUE]).text() + 'clump t\nwalk 1 0 t\ndone\n')

    def test_picks(self):
        self.assertEqual(paper_text(CUP, [1]), CUP.text() + 'part 0 -1 g\nclump g\nwalk 1 0 g\nclump t\nwalk 1 0 t\ndone\n')
        self.assertEqual(paper_text(picks=(-1,), thing=CUP), paper_text(CUP, [1]))
        chance = random.Random(901)
        for _ in range(30):
            thing = random_thing(chance, 5, 4)
            picks = [chance.randint(-99, 99) for _ in range(chance.randint(0, 9))]
            text = paper_text(thing, picks)
            lines = text[len(thing.text()):].split('\n')[:-1]
            steps = taken_apart(thing, picks)
            expected = [f'draw {step[1]}' if step[0] == 'draw' else f'part {step[1][0]} {step[1][1]} {" ".join(step[2])}' for step in steps]
            self.assertEqual(lines[:len(steps)], expected)
            self.assertTrue(lines[len(steps)].startswith('clump '))
            self.assertEqual(look(text), ('clumps', len(clumps(thing))))

    def test_its_walks_and_bars_are_stuck_papers(self):
        chance = random.Random(902)
        for _ in range(30):
            thing = random_thing(chance, 5, 4)
            lines = [line.split(' ') for line in paper_text(thing)[len(thing.text()):].split('\n')]
            starts = [at for at, line in enumerate(lines) if line[0] in ('clump', 'done')]
            self.assertEqual([lines[at][1:] for at in starts[:-1]], [list(names) for names, _ in clumps(thing)])
            for start, stop, (names, pegs) in zip(starts, starts[1:], clumps(thing)):
                walks = [((int(line[1]), int(line[2])), line[3:]) for line in lines[start:stop] if line[0] == 'walk']
                bars = [(line[1], int(line[2]), line[3]) for line in lines[start:stop] if line[0] == 'bar']
                self.assertTrue(is_stuck_paper(Lot(thing, names, fast=pegs), (walks, bars)))

    def test_equal_things_have_equal_papers(self):
        other = Thing(KEPT.pieces()[::-1], KEPT.pegs()[::-1])
        self.assertEqual(paper_text(other), PAPER)

    def test_picks_are_not_changed(self):
        picks = [3, 1, -2]
        paper_text(KEPT, picks)
        self.assertEqual(picks, [3, 1, -2])


class RightTests(unittest.TestCase):
    def test_the_whole_text_right(self):
        self.assertEqual(look(PAPER), ('clumps', 2))
        self.assertEqual(look(text=paper_text(CUP)), ('clumps', 2))
        self.assertEqual(look(paper_text(Thing([TONGUE]))), ('clumps', 1))
        self.assertEqual(look(paper_text(PEGGED_ROW)), ('clumps', len(clumps(PEGGED_ROW))))

    def test_other_steps_walks_and_bars_that_serve(self):
        self.assertEqual(look(changed(1, 'part 999 998 x')), ('clumps', 2))
        self.assertEqual(look(changed(1, 'part -1 0 f i')), ('clumps', 2))
        self.assertEqual(look(changed(3, 'walk 1 0 f i f i f i f')), ('clumps', 2))
        self.assertEqual(look(changed(4, 'bar held 0 i')), ('clumps', 2))
        self.assertEqual(look(changed(5, 'bar held 1 i')), ('bar', HEAD + 5))


class TextTests(unittest.TestCase):
    def check(self, text, line, why='form'):
        self.assertEqual(look(text), ('text', line, why), text)

    def test_values_that_are_no_strings(self):
        for value in any_values() + [0, 5, KEPT, LINES, (PAPER,), [PAPER], {PAPER: PAPER}]:
            if not isinstance(value, str):
                self.check(value, 0)

    def test_the_lines_of_the_thing(self):
        self.check('', 0, 'missing')
        self.check('\n', 0)
        self.check('thing', 0)
        self.check(text_of(LINES[:5]), 5, 'missing')
        self.check(text_of(LINES[:HEAD - 1]), HEAD - 1, 'missing')
        self.check(text_of(LINES[:HEAD - 1] + LINES[HEAD:]), HEAD - 1)
        self.check(PAPER.replace('piece x', 'piece a'), LINES.index('piece x'), 'order')
        self.check(PAPER.replace('peg held f i', 'peg held f o'), LINES.index('peg held f i'), 'unknown')
        self.check(PAPER.replace('peg held f i', 'peg i f i'), LINES.index('peg held f i'), 'double')
        self.check(PAPER.replace('part 8 0', 'part 7 0'), LINES.index('piece x') + 1, 'overlap')
        self.check(PAPER.replace('part 3 3 5 3 5 5 3 5\n', 'part 3 3 4 3 4 4 3 4\npart 5 5 6 5 6 6 5 6\n'), LINES.index('piece x') + 1, 'loose')
        self.check(PAPER.replace('way 4 4 0 1\n', 'way 4 4 0 1\n' * 3), LINES.index('way 4 4 0 1') + 3, 'many')

    def test_missing(self):
        for many in range(HEAD, len(LINES)):
            self.check(text_of(LINES[:many]), many, 'missing')

    def test_a_line_that_lacks_its_line_feed(self):
        for many in range(len(LINES)):
            self.check(text_of(LINES[:many]) + LINES[many], many)
        for rest in ('x', ' ', 'done', 'clump x'):
            self.check(PAPER + rest, len(LINES))

    def test_nothing_stands_behind_done(self):
        for line in ('', 'done', 'clump x', 'walk 1 0 x', 'draw pin', 'end', 'thing', ' '):
            self.check(text_of(LINES + [line]), len(LINES))
            self.check(text_of(LINES + [line, 'x']), len(LINES))
        self.check(PAPER + PAPER, len(LINES))

    def test_lines_of_no_form(self):
        for line in ['', ' ', 'x', 'end', 'thing', 'done ', ' done', 'done done', 'Done', 'close', 'turn 1 0', 'let a b', 'do a', 'block a',
                     'draw', 'draw ', 'draw A', 'draw a b', 'draw toolong', 'draw  a', 'draw +a',
                     'part', 'part 1', 'part 1 0', 'part 1 0 ', 'part 1 0 x ', 'part 1 0 x x', 'part 1 0 x i', 'part 1 0 A', 'part x',
                     'part 2 0 x', 'part 0 0 x', 'part 01 0 x', 'part 1 -0 x', 'part 1000 1 x', 'part +1 0 x', 'part 1  0 x', 'part 1 0 +x',
                     'part 1 0 toolong', 'part 1 0 0 x', 'join 1 0 f x', 'carry 1 0 x', 'leave 1 0 x', 'peg pin', 'way 1 0 0 1', 'piece x']:
            for at in range(2):
                self.check(changed(at, line), HEAD + at)
        for line in ['clump', 'clump ', 'clump f f', 'clump i f', 'clump F', 'clump f i ', 'clump f  i', 'clump 1', 'clump 1 0 f', 'clump f+i',
                     'walk', 'walk 1', 'walk 1 0', 'walk 1 0 ', 'walk 1 0 F', 'walk 2 0 f', 'walk 0 0 f', 'walk 1 00 f', 'walk f i f',
                     'walk 1 0 f  i', 'walk 1 0 f i f ', 'walk 1 0 1', 'walk 1001 1 f', 'walk 1 0 toolong',
                     'bar', 'bar held', 'bar held 0', 'bar held 0 ', 'bar held 3 f', 'bar held -1 f', 'bar held 00 f', 'bar held f 0',
                     'bar held 0 F', 'bar Held 0 f', 'bar held 0 f i', 'bar held  0 f', 'bar 0 held f', 'bar held +1 f', 'bar toolong 0 f',
                     'bar held -0 f', 'bar held 1000000000 f', 'bar held 0 f ']:
            for at in (3, 4, 5):
                self.check(changed(at, line), HEAD + at)

    def test_lines_at_a_place_where_they_cannot_stand(self):
        step, walk, bar = 'draw pin', 'walk 1 0 x', 'bar held 0 f'
        for at, lines in [(0, (walk,)), (0, (bar,)), (1, (walk,)), (1, (bar,)), (2, (walk,)), (2, (bar,))]:
            self.check(changed(at, *lines), HEAD + at)
        for at in (3, 4, 5, 6, 7, 8):
            self.check(changed(at, step), HEAD + at)
            self.check(changed(at, 'part 1 0 x'), HEAD + at)
        self.check(changed(5, 'bar held 1 f', 'walk 1 0 f i f'), HEAD + 6)
        self.check(changed(4, 'bar held 0 f', 'walk 1 0 f i f'), HEAD + 5)
        self.check(changed(2, 'walk 1 0 f', 'clump f i'), HEAD + 2)

    def test_the_forms_of_lines_that_stand(self):
        # These are wrong further on, but not by their form.
        for text in [changed(4, 'bar held 2 f'), changed(4, 'bar held 0 abcdef'), changed(3, 'walk -999 998 z z a'), changed(2, 'clump zz'),
                     changed(1, 'part 1 0 a b zz'), changed(0, 'draw draw'), text_of(LINES[:HEAD] + ['done']),
                     changed(3, 'walk 1 0 f i f', 'walk 1 0 f'), changed(2, 'clump f i', 'clump f i')]:
            self.assertNotEqual(look(text)[0], 'text')
            self.assertNotEqual(look(text)[0], 'clumps')


class ResultTests(unittest.TestCase):
    def test_step(self):
        for at, lines, wrong in [
            (0, ('draw glue',), 0), (0, ('draw held',), 0), (0, ('draw x',), 0), (0, ('draw zz',), 0), (0, ('draw pin', 'draw pin'), 1),
            (1, ('part 1 0 f',), 1), (1, ('part 1 0 f i',), 1), (1, ('part 1 0 f i x',), 1), (1, ('part 1 0 z',), 1), (1, ('part 1 0 x', 'part 1 0 x'), 2),
            (1, ('part 1 0 x', 'part 1 0 f x'), 2), (0, (), 0), (0, ('part 1 0 x', 'draw pin'), 0),
        ]:
            self.assertEqual(look(changed(at, *lines)), ('step', HEAD + wrong), lines)

    def test_clump(self):
        for at, lines, wrong in [
            (2, ('clump f',), 2), (2, ('clump i',), 2), (2, ('clump f i x',), 2), (2, ('clump f o',), 2), (6, ('clump f i',), 6), (6, ('clump z',), 6),
            (8, ('clump z', 'done'), 8), (8, ('clump x', 'walk 1 0 x', 'done'), 8), (8, ('clump a', 'clump b', 'done'), 8),
        ]:
            self.assertEqual(look(changed(at, *lines)), ('clump', HEAD + wrong), lines)

    def test_clumps_that_are_lacking(self):
        self.assertEqual(look(text_of(LINES[:HEAD + 6] + ['done'])), ('clump', HEAD + 6))
        self.assertEqual(look(text_of(LINES[:HEAD + 2] + ['done'])), ('clump', HEAD + 2))
        self.assertEqual(look(text_of(LINES[:HEAD] + ['done'])), ('clump', HEAD))
        # Without the last step there is one lot alone.
        self.assertEqual(look(changed(1)), ('clump', HEAD + 1))
        self.assertEqual(look(text_of(LINES[:HEAD + 1] + ['clump f i x', 'done'])), ('walk', HEAD + 2))

    def test_walk(self):
        for at, lines, wrong in [
            (3, ('walk 0 1 f i f',), 3), (3, ('walk -1 0 f i f',), 3), (3, ('walk 1 0 f i',), 3), (3, ('walk 1 0 i f i',), 3), (3, ('walk 1 0 f',), 3),
            (3, ('walk 1 0 f f',), 3), (3, ('walk 1 0 f i x i f',), 3), (3, ('walk 1 0 f i f', 'walk 1 0 f i f'), 4), (7, ('walk 1 0 x x',), 7),
            (7, ('walk 1 0 f',), 7), (7, ('walk 0 1 x',), 7), (7, ('walk 1 0 x', 'walk 1 0 x'), 8), (7, ('walk 1 0 x', 'walk 0 1 x'), 8),
        ]:
            self.assertEqual(look(changed(at, *lines)), ('walk', HEAD + wrong), lines)

    def test_walks_that_are_lacking(self):
        self.assertEqual(look(changed(3)), ('walk', HEAD + 3))
        self.assertEqual(look(changed(7)), ('walk', HEAD + 7))
        glued = CUP.with_peg(Peg('glue', 'g', 't'))
        lines = paper_text(glued).split('\n')[:-1]
        at = lines.index('clump g t')
        self.assertEqual(lines[at + 1:], ['walk 0 1 g t g', 'walk 0 -1 g t g', 'done'])
        self.assertEqual(look(text_of(lines[:at + 2] + lines[at + 3:])), ('walk', at + 2))
        self.assertEqual(look(text_of(lines[:at + 1] + lines[at + 3:])), ('walk', at + 1))
        self.assertEqual(look(text_of(lines[:at + 1] + lines[at + 2:])), ('walk', at + 1))
        self.assertEqual(look(text_of(lines[:at + 1] + [lines[at + 2], lines[at + 1], 'done'])), ('walk', at + 1))

    def test_a_lot_that_is_not_stuck_has_no_walk(self):
        text = CUP.text() + 'clump g t\nwalk 0 1 g t g\nwalk 0 -1 g t g\ndone\n'
        self.assertEqual(look(text), ('walk', CUP.text().count('\n') + 1))

    def test_bar(self):
        for at, lines, wrong in [
            (4, ('bar held 0 x',), 4), (4, ('bar held 0 z',), 4), (4, ('bar held 1 f',), 4), (4, ('bar held 2 f',), 4), (4, ('bar glue 0 f',), 4),
            (4, ('bar pin 0 f',), 4), (5, ('bar held 1 i',), 5), (5, ('bar held 0 f',), 5), (5, ('bar held 1 f', 'bar held 2 f'), 6),
            (5, ('bar held 1 f', 'bar held 1 f'), 6), (7, ('walk 1 0 x', 'bar pin 0 x'), 8), (4, ('bar held 0 f', 'bar held 0 f'), 5),
        ]:
            self.assertEqual(look(changed(at, *lines)), ('bar', HEAD + wrong), lines)

    def test_bars_that_are_lacking(self):
        self.assertEqual(look(changed(5)), ('bar', HEAD + 5))
        self.assertEqual(look(text_of(LINES[:HEAD + 4] + LINES[HEAD + 6:])), ('bar', HEAD + 4))
        self.assertEqual(look(changed(4)), ('bar', HEAD + 4))

    def test_a_peg_that_could_be_drawn_has_no_bar(self):
        thing = Thing([FRAME, INNER], [Peg('pin', 'f', 'i', [((0, 0), DOWN), ((0, 8), LEFT)])])
        self.assertEqual(look(thing.text() + 'clump f i\nwalk 1 0 f i f\ndone\n'), ('bar', thing.text().count('\n') + 2))
        for name in 'fi':
            text = thing.text() + f'clump f i\nwalk 1 0 f i f\nbar pin 0 {name}\nbar pin 1 {name}\ndone\n'
            self.assertEqual(look(text), ('bar', thing.text().count('\n') + 2))

    def test_two_wrong_lines_and_the_first_result_of_the_list(self):
        # By its place each of these lines gives the result alone.
        wrong = {0: ('step', 'draw held'), 2: ('clump', 'clump f'), 3: ('walk', 'walk 1 0 f'), 4: ('bar', 'bar held 0 z'),
                 6: ('clump', 'clump z'), 7: ('walk', 'walk 1 0 x x')}
        for one, other in itertools.combinations(wrong, 2):
            lines = list(LINES)
            lines[HEAD + one], lines[HEAD + other] = wrong[one][1], wrong[other][1]
            # Steps come first, then clumps; walks and bars stand clump by clump.
            first = min((one, other), key=lambda at: ({'step': 0, 'clump': 1}.get(wrong[at][0], 2), at))
            self.assertEqual(look(text_of(lines)), (wrong[first][0], HEAD + first))
            self.assertEqual(look(text_of(lines)), look_by_words(text_of(lines)))
            for at in wrong:
                if at not in (one, other):
                    further = lines[:HEAD + at] + ['x'] + lines[HEAD + at + 1:]
                    self.assertEqual(look(text_of(further)), ('text', HEAD + at, 'form'))

    def test_bars_of_a_clump_come_ahead_of_the_walks_of_the_next_one(self):
        lines = list(LINES)
        lines[HEAD + 5], lines[HEAD + 7] = 'bar held 1 i', 'walk 1 0 x x'
        self.assertEqual(look(text_of(lines)), ('bar', HEAD + 5))
        lines[HEAD + 3] = 'walk 1 0 f'
        self.assertEqual(look(text_of(lines)), ('walk', HEAD + 3))


class ChanceTests(unittest.TestCase):
    def test_lines_left_out_doubled_exchanged_put_elsewhere_and_cut(self):
        chance = random.Random(903)
        papers = [PAPER]
        while len(papers) < 30:
            papers.append(paper_text(random_thing(chance, 5, 5), [chance.randint(0, 99) for _ in range(9)]))
        results = []
        for _ in range(1500):
            text = self.change(chance, chance.choice(papers), chance.choice(papers))
            result = look(text)
            self.assertEqual(result, look_by_words(text), text)
            results.append(result[0] if result[0] != 'text' else result[2])
        for word, many in (('clumps', 20), ('step', 20), ('clump', 20), ('walk', 20), ('bar', 5), ('form', 20), ('missing', 20), ('order', 9)):
            self.assertGreater(results.count(word), many, word)

    def change(self, chance, text, other):
        lines = text.split('\n')[:-1]
        least = chance.choice([0, lines.index('end'), lines.index('end')])
        at, place = chance.randrange(least, len(lines)), chance.randrange(least, len(lines))
        kind = chance.randint(0, 8)
        if kind == 0:
            del lines[at]
        elif kind == 1:
            lines.insert(place, lines[at])
        elif kind == 2:
            lines[at], lines[place] = lines[place], lines[at]
        elif kind == 3:
            lines.insert(place, lines.pop(at))
        elif kind == 4:
            return text[:chance.randrange(len(text))]
        elif kind == 5:
            lines[at] = chance.choice(other.split('\n')[:-1])
        else:
            words = lines[at].split(' ')
            words[chance.randrange(len(words))] = chance.choice(['a', 'b', '0', '1', '-1', 's', ''] + words)
            lines[at] = ' '.join(words)
        return text_of(lines)

    def test_papers_agree_with_the_clumps_over_all_picks(self):
        chance = random.Random(904)
        for _ in range(25):
            thing = random_thing(chance, 5, 4)
            picks = [chance.randint(0, 99) for _ in range(20)]
            self.assertEqual(look(paper_text(thing, picks)), ('clumps', len(clumps(thing))))
            self.assertEqual(played(thing, taken_apart(thing, picks)).is_ended(), True)
            self.assertEqual(State(thing).is_ended(), not taken_apart(thing))


if __name__ == '__main__':
    unittest.main()
