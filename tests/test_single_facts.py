"""The facts of the document about pieces that leave one by one, instructions and building, over things by chance."""

import itertools
import random
import unittest

from reference_singles import Slow, all_held
from samples import random_thing
from stucklots.building import rebuilt, turned_back
from stucklots.clumps import clumps, ended_state, played, taken_apart
from stucklots.instructions import done_lines, plain_steps, run, shortened, turnings, written
from stucklots.singles import doors, emptied, full_row, is_row, kernel, row_count, surely_before
from stucklots.states import State


def drawn(seed, many, most=5, pegs=4):
    chance = random.Random(seed)
    return [(chance, random_thing(chance, most, pegs)) for _ in range(many)]


class KernelFacts(unittest.TestCase):
    def test_what_can_leave_or_be_drawn_still_can_when_more_has_gone(self):
        for chance, thing in drawn(601, 40):
            slow = Slow(thing)
            rest = slow.first()
            while slow.moves(rest, ()):
                before = [move for move, _ in slow.moves(rest, ())]
                done, rest = chance.choice(slow.moves(rest, ()))
                after = [move for move, _ in slow.moves(rest, ())]
                self.assertLessEqual(set(before) - {done}, set(after))

    def test_a_piece_outside_of_the_kernel_is_a_clump_by_itself(self):
        for _, thing in drawn(602, 80, 6):
            names, pegs = kernel(thing)
            for name in thing.names():
                if name not in names:
                    self.assertIn(((name,), ()), clumps(thing))
            # So the pegs that are fast at the end are among those of the kernel.
            self.assertLessEqual(set(ended_state(thing).fast()), set(pegs))

    def test_with_more_pieces_held_the_kernel_is_greater(self):
        grown = 0
        for chance, thing in drawn(603, 120):
            sets = all_held(thing)
            for _ in range(6):
                few = chance.choice(sets)
                more = chance.choice([held for held in sets if set(few) <= set(held)])
                one, other = kernel(thing, held=few), kernel(thing, held=more)
                self.assertLessEqual(set(few), set(one[0]))
                self.assertLessEqual(set(one[0]), set(other[0]))
                self.assertLessEqual(set(one[1]), set(other[1]))
                grown += len(other[0]) - len(one[0]) > len(more) - len(few)
        self.assertGreater(grown, 4)

    def test_what_the_habit_does_leaves_the_kernel(self):
        for chance, thing in drawn(604, 60, 6):
            held = chance.choice(all_held(thing))
            done = emptied(thing, held=held)
            left = [step[2] for step in done if step[0] == 'leave']
            names, pegs = kernel(thing, held=held)
            self.assertEqual(sorted(left + names), thing.names())
            self.assertEqual(sorted([step[1] for step in done if step[0] == 'draw'] + pegs), thing.peg_names())
            self.assertTrue(is_row(thing, left, held=held))


class RowFacts(unittest.TestCase):
    def test_beginnings_of_rows_are_rows_and_rows_begin_full_ones(self):
        for chance, thing in drawn(605, 40):
            held = chance.choice(all_held(thing))
            row = full_row(thing, chance.randrange(row_count(thing, held=held)), held=held)
            for many in range(len(row) + 1):
                self.assertTrue(is_row(thing, row[:many], held=held))
            rows = Slow(thing).all_rows(held)
            for found in rows:
                self.assertTrue(any(tuple(full[:len(found)]) == found for full in Slow(thing).full_rows(held)))

    def test_two_rows_one_behind_the_other(self):
        for chance, thing in drawn(606, 40):
            rows = sorted(Slow(thing).all_rows())
            for _ in range(10):
                one, other = chance.choice(rows), chance.choice(rows)
                self.assertTrue(is_row(thing, one + tuple(name for name in other if name not in one)))

    def test_surely_before_exactly_if_it_is_kept_when_the_piece_is_held(self):
        kept = 0
        for _, thing in drawn(607, 200):
            out = [name for name in thing.names() if name not in kernel(thing)[0]]
            for one, other in itertools.product(thing.names(), out):
                ahead = surely_before(thing, one, other)
                self.assertEqual(ahead, one != other and other in kernel(thing, held=[one])[0])
                if ahead:
                    self.assertFalse(surely_before(thing, other, one))
                    kept += 1
        self.assertGreater(kept, 5)

    def test_a_piece_can_leave_exactly_if_a_door_has_gone(self):
        for _, thing in drawn(608, 40, 5, 2):
            slow = Slow(thing)
            for name in thing.names():
                found = doors(thing, name)
                for many in range(len(thing)):
                    for gone in itertools.combinations([other for other in thing.names() if other != name], many):
                        self.assertEqual(slow.is_open(name, gone), any(set(door) <= set(gone) for door in found))


def random_text(chance, thing):
    """Instructions by chance whose first steps can be taken: some of them in blocks, and names by words."""
    steps = taken_apart(thing, [chance.randint(0, 99) for _ in range(20)])
    lines, words = [], 0
    for at, step in enumerate(steps):
        if step[0] == 'draw':
            lines.append(f'draw {step[1]}')
            continue
        lines += ['turn 0 1'] * chance.randint(0, 1) + [f'turn {step[1][0]} {step[1][1]}']
        names = ' '.join(chance.sample(step[2], len(step[2])))
        kind = chance.randint(0, 2)
        if kind == 0:
            lines.append(f'part {names}')
        elif kind == 1:
            lines += [f'let {"abcdefghijklmn"[words]} {names}', f'part +{"abcdefghijklmn"[words]}']
        else:
            lines += [f'block {"abcdefghijklmn"[words]}', f'part {names}', 'close', f'do {"abcdefghijklmn"[words]}']
        words += 1
    return ''.join(f'{line}\n' for line in lines), steps


class InstructionFacts(unittest.TestCase):
    def test_shortened_instructions_do_the_same(self):
        for chance, thing in drawn(609, 80, 6):
            text, steps = random_text(chance, thing)
            self.assertEqual(plain_steps(text), steps)
            short = shortened(text)
            self.assertLessEqual(short.count('\n'), text.count('\n'))
            self.assertEqual(plain_steps(short), steps)
            self.assertEqual(shortened(short), short)
            self.assertEqual(run(thing, text), played(thing, steps))
            self.assertEqual(run(thing, short), ended_state(thing))
            self.assertEqual(turnings(plain_steps(short)), turnings(steps))

    def test_the_lines_of_shortened_instructions_are_those_of_its_steps(self):
        for chance, thing in drawn(610, 30):
            text, steps = random_text(chance, thing)
            lines = written(steps).split('\n')
            for line, step in done_lines(written(steps)):
                self.assertEqual(lines[line].split(' ')[0], step[0])
                self.assertEqual(lines[line].split(' ')[1:], list(step[2]) if step[0] == 'part' else [step[1]])


class BuildingFacts(unittest.TestCase):
    def test_steps_turned_back_lead_over_the_same_states(self):
        for chance, thing in drawn(611, 50, 6):
            steps = taken_apart(thing, [chance.randint(0, 99) for _ in range(20)])[:chance.randint(0, 12)]
            back = turned_back(thing, steps)
            state = played(thing, steps)
            for many in range(len(back) + 1):
                self.assertEqual(rebuilt(state, back[:many]), played(thing, steps[:len(steps) - many]))
            self.assertEqual(rebuilt(state, back), State(thing))


if __name__ == '__main__':
    unittest.main()
