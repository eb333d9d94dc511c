import itertools
import random
import unittest

from reference_instructions import first_fault, steps_of
from samples import HOOKS, PEGGED_ROW, PIN, ROW, any_values, caught, random_thing
from stucklots.clumps import played, taken_apart
from stucklots.instructions import done_lines, plain_steps, run, shortened, trace, turnings, written
from stucklots.pegs import Peg
from stucklots.states import State
from stucklots.things import Thing

RIGHT, UP, LEFT, DOWN = (1, 0), (0, 1), (-1, 0), (0, -1)
HOOKED = Thing(HOOKS)
PINNED = Thing(HOOKS, [Peg('pin', 'b', 'a', [((3, 8), UP)])])
EXAMPLE = 'turn 0 1\nturn -1 0\nlet two a b\npart +two\nturn 0 1\npart b\npart c\n'
NO_STRINGS = [value for value in any_values() if not isinstance(value, str)] + [0, 5, PINNED, [EXAMPLE], (EXAMPLE,), {EXAMPLE: 1}]
READERS = (done_lines, plain_steps, shortened)
GOOD = {
    'turn': ['turn 0 1', 'turn 1 0', 'turn -1 0', 'turn 999 -998', 'turn -999 1', 'turn 3 -2'],
    'part': ['part a', 'part a b c', 'part c a b a', 'part toolon', 'part turn part draw', 'part zzzzzz let do'],
    'draw': ['draw a', 'draw pin', 'draw draw', 'draw abcdef'],
    'let': ['let a a', 'let b a b', 'let two a b a', 'let let let', 'let x close do block'],
}
# Lines of no form, wherever they stand.
FORMLESS = [
    '', ' ', 'x', 'Part a', 'parta', 'part', 'part ', ' part a', 'part a ', 'part  a', 'part a  b', 'part A', 'part toolong',
    'part +', 'part ++a', 'part + a', 'part a+', 'part a+b', 'part -a', 'part +A', 'part +toolong', 'part a,b', 'part 1',
    'part 1 0 a', 'part a\tb', 'turn', 'turn 1', 'turn 1 0 0', 'turn 0 0', 'turn 2 0', 'turn 2 4', 'turn -3 -3', 'turn 1000 1',
    'turn 1 -1000', 'turn 01 0', 'turn 1 00', 'turn +1 0', 'turn -0 1', 'turn 1 -0', 'turn 1.0 0', 'turn 1 a', 'turn (1, 0)',
    'turn 1  0', 'turn 1 0 ', 'turn 1000000000 1', 'turn 1 1000000001', 'turn - 1', 'turn 1,0', 'turn 1e0 0', 'turn 1_0 1',
    'draw', 'draw ', 'draw a b', 'draw +a', 'draw A', 'draw toolong', 'draw  a', 'draw 1', 'let', 'let a', 'let a ', 'let a A',
    'let A a', 'let a +b', 'let +a b', 'let a  b', 'let toolong a', 'let a b toolong', 'let a 1', 'block', 'block ', 'block a b',
    'block A', 'block +a', 'block toolong', 'close ', 'close a', ' close', 'Close', 'do', 'do ', 'do a b', 'do A', 'do +a',
    'do toolong', 'do 1', 'join 1 0 a b', 'peg pin', 'end', 'thing', 'done', '#', 'part a;draw b',
]


def text_of(lines):
    return ''.join(line + '\n' for line in lines)


def fault(line, why):
    return ('InvalidText', {'line': line, 'why': why})


class DoneTests(unittest.TestCase):
    def test_the_empty_string(self):
        self.assertEqual([done_lines(''), plain_steps(''), shortened('')], [[], [], ''])
        self.assertEqual(run(HOOKED, ''), State(HOOKED))
        self.assertEqual(list(trace(HOOKED, '')), [])

    def test_the_example(self):
        expected = [(3, ('part', LEFT, ('a', 'b'))), (5, ('part', UP, ('b',))), (6, ('part', UP, ('c',)))]
        self.assertEqual(done_lines(EXAMPLE), expected)
        self.assertEqual(plain_steps(text=EXAMPLE), [step for _, step in expected])
        self.assertEqual(shortened(text=EXAMPLE), 'turn -1 0\npart a b\nturn 0 1\npart b\npart c\n')
        self.assertEqual(turnings(plain_steps(EXAMPLE)), 2)
        self.assertEqual([lot.names() for lot in run(HOOKED, EXAMPLE).lots()], [[name] for name in 'abcd'])

    def test_the_first_direction(self):
        self.assertEqual(done_lines(text='part a\nturn 0 1\npart a\nturn 1 0\npart a\n'),
                         [(0, ('part', RIGHT, ('a',))), (2, ('part', UP, ('a',))), (4, ('part', RIGHT, ('a',)))])

    def test_names_are_ascending_and_count_once(self):
        self.assertEqual(plain_steps('part c a b a c\n'), [('part', RIGHT, ('a', 'b', 'c'))])
        self.assertEqual(plain_steps('let w c a c\nlet v d a\npart +w b +v +w a\n'), [('part', RIGHT, ('a', 'b', 'c', 'd'))])
        # A word stands for names, also where these are words themselves.
        self.assertEqual(plain_steps('let w v\nlet v z\npart +w\n'), [('part', RIGHT, ('v',))])

    def test_names_need_not_be_known(self):
        self.assertEqual(plain_steps('draw zzz\npart nobody here\n'), [('draw', 'zzz'), ('part', RIGHT, ('here', 'nobody'))])

    def test_a_let_a_block_and_a_piece_with_the_same_word(self):
        text = 'let a b c\nblock a\npart a\npart +a\nclose\ndo a\npart +a a\n'
        self.assertEqual(done_lines(text), [(2, ('part', RIGHT, ('a',))), (3, ('part', RIGHT, ('b', 'c'))),
                                            (6, ('part', RIGHT, ('a', 'b', 'c')))])

    def test_blocks(self):
        text = 'block up\nturn 0 1\npart a\ndraw p\nclose\npart b\ndo up\npart c\nturn -1 0\ndo up\n'
        up = [(2, ('part', UP, ('a',))), (3, ('draw', 'p'))]
        self.assertEqual(done_lines(text), [(5, ('part', RIGHT, ('b',))), *up, (7, ('part', UP, ('c',))), *up])

    def test_the_direction_is_that_of_when_a_block_is_done(self):
        text = 'block x\npart a\nclose\nturn 0 1\ndo x\nturn 0 -1\ndo x\ndo x\n'
        self.assertEqual(done_lines(text), [(1, ('part', direction, ('a',))) for direction in (UP, DOWN, DOWN)])
        # A turn at the end of a block holds on behind it.
        self.assertEqual(plain_steps('block x\nturn 0 1\nclose\npart a\ndo x\npart a\n'),
                         [('part', RIGHT, ('a',)), ('part', UP, ('a',))])

    def test_what_stands_in_a_block_is_not_done_there(self):
        self.assertEqual(plain_steps('block x\nturn 0 1\npart a\ndraw p\nclose\npart b\n'), [('part', RIGHT, ('b',))])
        self.assertEqual(plain_steps('block x\nclose\ndo x\ndo x\n'), [])

    def test_a_part_in_a_block_takes_the_lets_ahead_of_it(self):
        self.assertEqual(plain_steps('let w a\nblock x\npart +w\nclose\nlet v b\ndo x\n'), [('part', RIGHT, ('a',))])
        self.assertEqual(caught(done_lines, 'block x\npart +w\nclose\nlet w a\ndo x\n'), fault(1, 'unknown'))

    def test_lines_of_every_form(self):
        for word, lines in GOOD.items():
            for line in lines:
                self.assertIsNone(caught(done_lines, line + '\n'), line)
                self.assertEqual(len(plain_steps(line + '\n')), word in ('part', 'draw'))

    def test_returned_lists_are_new(self):
        for call in (done_lines, plain_steps):
            call(EXAMPLE).clear()
            self.assertEqual(len(call(EXAMPLE)), 3)


class FaultTests(unittest.TestCase):
    def check(self, text, line, why):
        for call in READERS:
            self.assertEqual(caught(call, text), fault(line, why), text)
        self.assertEqual(caught(run, HOOKED, text), fault(line, why))
        self.assertEqual(caught(next, trace(HOOKED, text)), fault(line, why))

    def test_values_that_are_no_strings(self):
        for value in NO_STRINGS:
            self.check(value, 0, 'form')

    def test_lines_of_no_form(self):
        for line in FORMLESS:
            self.check(line + '\n', 0, 'form')
            self.check(f'part a\nlet a b\nblock a\n{line}\nclose\n', 3, 'form')
            self.check(f'block a\npart b\nclose\n{line}\nclose\n', 3, 'form')

    def test_a_line_that_lacks_its_line_feed(self):
        for text, line in [('part a', 0), ('close', 0), ('part a\n ', 1), ('part a\ndraw p', 1), ('block a\nclose', 1),
                           ('block a\npart b', 1), ('part a\nx', 1), ('part a\n\nx', 1), ('let a b\nlet a b', 1)]:
            self.check(text, line, 'form')

    def test_empty_words_and_lines(self):
        for text, line in [('\n', 0), ('\n\n', 0), ('part a\n\n', 1), ('part a\n\npart b\n', 1), (' \n', 0)]:
            self.check(text, line, 'form')

    def test_the_60th_and_the_61st_line(self):
        lines = ['draw p'] * 60
        self.assertEqual(len(plain_steps(text_of(lines))), 60)
        self.check(text_of(lines + ['draw p']), 60, 'many')
        self.check(text_of(lines + ['draw p'] * 9), 60, 'many')
        self.check(text_of(lines + ['draw']), 60, 'form')
        self.check(text_of(lines) + 'draw p', 60, 'form')
        self.check(text_of(lines[:59] + ['draw', 'draw p']), 59, 'form')
        for line in ('close', 'do x', 'part +x', 'block x', 'let x y'):
            self.check(text_of(lines + [line]), 60, 'many')
        self.check(text_of(lines[:58] + ['let x y', 'block x', 'let x y']), 60, 'many')
        self.check(text_of(lines[:59] + ['block x', 'close']), 60, 'many')

    def test_nested(self):
        for line in ('block b', 'block a', 'let b a', 'let v a', 'do b', 'do a', 'do z'):
            self.check(f'let v a\nblock b\nclose\nblock a\npart a\n{line}\n', 5, 'nested')
        self.assertIsNone(caught(done_lines, 'block a\nturn 0 1\npart a\ndraw p\nclose\nblock b\nclose\nlet b a\ndo b\n'))

    def test_open(self):
        for text, line in [('close\n', 0), ('part a\nclose\n', 1), ('block a\nclose\nclose\n', 2), ('let a b\nclose\nx\n', 1)]:
            self.check(text, line, 'open')

    def test_double(self):
        for text, line in [('let a b\nlet a b\n', 1), ('let a b\npart +a\nlet b a\nlet a c\n', 3),
                           ('block a\nclose\nblock a\nclose\n', 2), ('block a\nclose\ndo a\nblock b\nclose\nblock a\n', 5)]:
            self.check(text, line, 'double')
        self.assertIsNone(caught(done_lines, 'let a b\nblock a\nclose\nlet b a\nblock b\nclose\n'))

    def test_unknown(self):
        for text, line in [('part +a\n', 0), ('part a +a\n', 0), ('let b a\npart +b +a\n', 1), ('part +a\nlet a b\n', 0),
                           ('block a\nclose\npart +a\n', 2), ('let a b\ndo a\n', 1), ('do a\nblock a\nclose\n', 0), ('do a\n', 0),
                           ('block a\npart +a\nclose\n', 1), ('block a\nclose\ndo b\n', 2)]:
            self.check(text, line, 'unknown')

    def test_missing(self):
        for text, line in [('block a\n', 1), ('part a\nblock a\npart b\n', 3), ('block a\nclose\nblock b\nturn 0 1\n', 4)]:
            self.check(text, line, 'missing')
        self.check(text_of(['draw p'] * 59 + ['block x']), 60, 'missing')

    def test_the_first_of_several_wrong_lines(self):
        wrong = {'form': 'x', 'open': 'close', 'unknown': 'do z', 'double': 'let w a'}
        for (why, line), other in itertools.product(wrong.items(), wrong.values()):
            self.check(f'let w a\n{line}\n{other}\n', 1, why)

    def test_the_empty_string_is_right_and_texts_by_chance(self):
        chance = random.Random(301)
        lines = ['turn 0 1', 'turn -1 0', 'part a', 'part +a', 'part +b c', 'part c +a b', 'draw a', 'let a a b', 'let b c',
                 'let a d', 'block a', 'block b', 'close', 'close', 'do a', 'do b', 'draw', 'let a', 'part  a']
        seen = []
        for _ in range(6000):
            text = text_of(chance.choice(lines if chance.random() < 0.1 else lines[:16]) for _ in range(chance.randint(0, 9)))
            text = text[:-1] if chance.random() < 0.02 else text
            wrong = first_fault(text)
            seen.append(wrong and wrong[1])
            self.assertEqual(caught(done_lines, text), wrong and fault(*wrong), text)
            if wrong is None:
                self.assertEqual(done_lines(text), steps_of(text))
        for why in (None, 'form', 'nested', 'open', 'double', 'unknown', 'missing'):
            self.assertGreater(seen.count(why), 50)


class WrittenTests(unittest.TestCase):
    def test_values(self):
        a, b = ('part', RIGHT, ('a',)), ('part', UP, ('b', 'c'))
        self.assertEqual(written([]), '')
        self.assertEqual(written(()), '')
        self.assertEqual(written([a]), 'part a\n')
        self.assertEqual(written(steps=[b]), 'turn 0 1\npart b c\n')
        self.assertEqual(written([a, b, b, a]), 'part a\nturn 0 1\npart b c\npart b c\nturn 1 0\npart a\n')
        self.assertEqual(written((b, ('draw', 'p'), b)), 'turn 0 1\npart b c\ndraw p\npart b c\n')
        self.assertEqual(written([('draw', 'p'), ('draw', 'q')]), 'draw p\ndraw q\n')
        self.assertEqual(written([('part', (-999, 2), ('zzz',))]), 'turn -999 2\npart zzz\n')
        self.assertEqual(written([('part', LEFT, ('a',)), a]), 'turn -1 0\npart a\nturn 1 0\npart a\n')

    def test_there_and_back_by_chance(self):
        chance = random.Random(302)
        for _ in range(200):
            steps = random_steps(chance, chance.randint(0, 30))
            text = written(steps)
            self.assertEqual(plain_steps(text), steps)
            self.assertEqual(shortened(text), text)
            turns = [line for line in text.split('\n') if line.startswith('turn')]
            self.assertEqual(text.count('\n') - len(turns), len(steps))
            directions = [step[1] for step in steps if step[0] == 'part']
            self.assertEqual(len(turns), turnings(steps) - (directions[:1] == [RIGHT]))

    def test_more_than_60_lines(self):
        steps = [('part', (RIGHT, UP)[at % 2], ('a',)) for at in range(62)]
        self.assertEqual(written(steps).count('\n'), 62 + 61)
        text = 'block x\n' + 'draw p\n' * 20 + 'close\n' + 'do x\n' * 10
        self.assertEqual(shortened(text), 'draw p\n' * 200)
        self.assertEqual(caught(shortened, shortened(text)), fault(60, 'many'))

    def test_shortened(self):
        self.assertEqual(shortened('turn 0 1\nturn 1 0\npart b a\n'), 'part a b\n')
        self.assertEqual(shortened('turn 0 1\ndraw p\nturn -1 0\n'), 'draw p\n')
        self.assertEqual(shortened('turn 0 1\npart a\nturn 1 0\nturn 0 1\npart b\n'), 'turn 0 1\npart a\npart b\n')
        self.assertEqual(shortened('block x\npart b\nclose\nturn 0 1\ndo x\ndo x\n'), 'turn 0 1\npart b\npart b\n')

    def test_turnings(self):
        a, b, draw = ('part', RIGHT, ('a',)), ('part', UP, ('b', 'c')), ('draw', 'p')
        for steps, many in [([], 0), ([draw], 0), ([a], 1), ([b], 1), ([a, a], 1), ([a, b], 2), ([a, b, a], 3), ([a, b, b, a], 3),
                            ([a, draw, a], 1), ([draw, a, draw, b, draw], 2), ((b, b, b), 1), ([('part', LEFT, ('a',)), a], 2)]:
            self.assertEqual(turnings(steps), many)
        self.assertEqual(turnings(steps=[a]), 1)

    def test_lists_are_not_changed(self):
        steps = [('part', RIGHT, ('a',)), ('draw', 'p')]
        written(steps)
        turnings(steps)
        self.assertEqual(steps, [('part', RIGHT, ('a',)), ('draw', 'p')])


def random_steps(chance, many):
    """Steps by chance by their form alone."""
    found = []
    for _ in range(many):
        names = tuple(sorted(chance.sample(['a', 'b', 'c', 'dd', 'zzzzzz'], chance.randint(1, 4))))
        part = ('part', chance.choice([RIGHT, RIGHT, UP, LEFT, DOWN, (3, -2)]), names)
        found.append(chance.choice([part, part, ('draw', chance.choice('pqr'))]))
    return found


class RunTests(unittest.TestCase):
    def test_values(self):
        text = 'turn -1 0\npart a b\ndraw pin\nturn 0 1\npart b\n'
        expected = played(PINNED, [('part', LEFT, ('a', 'b')), ('draw', 'pin'), ('part', UP, ('b',))])
        self.assertEqual(run(PINNED, text), expected)
        self.assertEqual(run(text=text, thing=PINNED), expected)
        self.assertEqual(run(PINNED, shortened(text)), expected)
        self.assertIsInstance(run(PINNED, text), State)

    def test_trace(self):
        text = 'block x\ndraw pin\nclose\nturn -1 0\npart a b\ndo x\nturn 0 1\npart b\n'
        steps = [('part', LEFT, ('a', 'b')), ('draw', 'pin'), ('part', UP, ('b',))]
        states = [played(PINNED, steps[:many]) for many in (1, 2, 3)]
        self.assertEqual(list(trace(PINNED, text)), list(zip([4, 1, 7], states)))
        self.assertEqual(list(trace(text=text, thing=PINNED))[-1], (7, run(PINNED, text)))

    def test_refused(self):
        for text, line, why in [
            ('draw pin\n', 0, 'Held'),
            ('turn 1 0\ndraw nobody\n', 1, 'UnknownName'),
            ('draw a\n', 0, 'UnknownName'),
            ('part a zz\n', 0, 'UnknownName'),
            ('part a b c d\n', 0, 'NoParting'),
            ('part c\n', 0, 'Barred'),
            ('turn 0 1\npart a\n', 1, 'Barred'),
            ('part c d\nturn 0 1\npart b\n', 2, 'Pegged'),
            ('part c d\npart b c\n', 1, 'NoParting'),
            ('part c d\ndraw pin\nturn 0 1\ndraw pin\n', 3, 'NotFast'),
        ]:
            self.assertEqual(caught(run, PINNED, text), ('Refused', {'line': line, 'why': why}))

    def test_refused_within_a_block(self):
        text = 'block x\nturn 0 1\npart b\nclose\npart c d\ndraw pin\ndo x\ndo x\n'
        self.assertEqual(caught(run, PINNED, text), ('Refused', {'line': 2, 'why': 'NoParting'}))
        found, error = self.all_of(trace(PINNED, text))
        self.assertEqual([line for line, _ in found], [4, 5, 2])
        self.assertEqual(error, ('Refused', {'line': 2, 'why': 'NoParting'}))

    def all_of(self, pairs):
        """The items of a generator, and the error that it raises behind them."""
        found = []

        def take():
            for pair in pairs:
                found.append(pair)
        return found, caught(take)

    def test_trace_yields_the_items_ahead_of_a_refused_step(self):
        text = 'part c d\ndraw pin\ndraw pin\nturn 0 1\npart b\n'
        found, error = self.all_of(trace(PINNED, text))
        states = [played(PINNED, [('part', RIGHT, ('c', 'd'))]), played(PINNED, [('part', RIGHT, ('c', 'd')), ('draw', 'pin')])]
        self.assertEqual(found, list(zip([0, 1], states)))
        self.assertEqual(error, ('Refused', {'line': 2, 'why': 'NotFast'}))
        self.assertEqual(self.all_of(trace(PINNED, 'draw pin\n')), ([], ('Refused', {'line': 0, 'why': 'Held'})))

    def test_invalid_text_comes_ahead_of_the_first_item(self):
        for text in ('part c d\nx\n', 'part c d\ndraw pin\ndraw pin\nx', 'part c d\nblock y\n'):
            found, error = self.all_of(trace(PINNED, text))
            self.assertEqual((found, error[0]), ([], 'InvalidText'))
            self.assertEqual(caught(run, PINNED, text), error)
        for value in NO_STRINGS:
            pairs = trace(PINNED, value)
            self.assertEqual(caught(next, pairs), fault(0, 'form'))

    def test_instructions_of_whole_ways_by_chance(self):
        chance = random.Random(303)
        for _ in range(40):
            thing = random_thing(chance, 5, 3)
            steps = taken_apart(thing, [chance.randint(0, 99) for _ in range(20)])
            text = written(steps)
            self.assertEqual(plain_steps(text), steps)
            self.assertEqual(run(thing, text), played(thing, steps))
            self.assertEqual([state for _, state in trace(thing, text)], [played(thing, steps[:at + 1]) for at in range(len(steps))])

    def test_the_first_step_that_cannot_be_taken_by_chance(self):
        chance = random.Random(304)
        thing = Thing(ROW, [PIN])
        for _ in range(100):
            steps = [('part', chance.choice([UP, RIGHT, LEFT]), chance.choice([('a',), ('b',), ('a', 'b'), ('c', 'd'), ('x',)]))
                     for _ in range(4)] + [('draw', chance.choice(['pin', 'q']))]
            chance.shuffle(steps)
            good = [many for many in range(6) if caught(played, thing, steps[:many]) is None][-1]
            expected = None
            if good < 5:
                line = [line for line, _ in done_lines(written(steps))][good]
                expected = ('Refused', {'line': line, 'why': caught(played, thing, steps)[0]})
            self.assertEqual(caught(run, thing, written(steps)), expected)

    def test_pegs_in_the_row(self):
        self.assertEqual(run(PEGGED_ROW, 'draw pin\n'), State(PEGGED_ROW).after(('draw', 'pin')))


if __name__ == '__main__':
    unittest.main()
