"""What the document promises over the whole program: things in other places, under other names and in another order tell
the same, all ways of taking steps lead to the same states, and what the modules tell agrees."""

import inspect
import itertools
import random
import unittest

from reference import with_between
from samples import FRAME, HOOKS, INNER, PEGGED_ROW, ROW, UP, any_values, caught, random_thing
from stucklots.building import building, rebuilt, turned_back
from stucklots.changes import freeing_pegs, heirs, still_holds
from stucklots.clumps import clump_of, clumps, ended_state, is_one_clump, played, taken_apart
from stucklots.compass import barred_by, compass, stands_for, web
from stucklots.instructions import run, shortened, trace, turnings, written
from stucklots.lots import Lot
from stucklots.papers import look, paper_text
from stucklots.pegs import Peg
from stucklots.pieces import Piece
from stucklots.rounds import in_round, turned_half
from stucklots.singles import doors, emptied, full_index, full_row, is_row, kernel, row_count, surely_before
from stucklots.spares import carried, cheaper_sets, fetched, gone_sets, price_of
from stucklots.states import State
from stucklots.stuck import is_stuck_paper, stuck_paper
from stucklots.things import Thing
from stucklots.turnings import fewest_turnings, finest_state, turning_row
from stucklots.works import Works

# Names that stand in the same order as a, b, c and so on, and names that stand in another order.
SAME_ORDER = dict(zip('abcdefghistuvwxyz', ['aa', 'ab', 'b', 'c', 'ca', 'f', 'g', 'h', 'hh', 'm', 'n', 'o', 'p', 'pp', 'q', 'r', 's']))
OTHER_ORDER = dict(zip('abcdefghistuvwxyz', ['k', 'aaa', 'z', 'c', 'b', 'i', 'g', 'y', 'h', 'u', 'j', 'e', 'w', 'x', 'd', 'm', 'l']))
CHANGES = {
    'moved': (lambda thing: thing.moved(-40, 33), lambda pair: pair),
    'turned': (lambda thing: thing.turned(), lambda pair: (-pair[1], pair[0])),
    'turned twice': (lambda thing: thing.turned(2), lambda pair: (-pair[0], -pair[1])),
    'turned to the right': (lambda thing: thing.turned(-1), lambda pair: (pair[1], -pair[0])),
    'mirrored': (lambda thing: thing.mirrored(), lambda pair: (-pair[0], pair[1])),
}


def drawn(seed, many, most=5, pegs=3):
    chance = random.Random(seed)
    return [(chance, random_thing(chance, most, pegs)) for _ in range(many)]


def renamed(thing, names):
    """The thing with other names."""
    pieces = [Piece(names[piece.name], piece.parts()) for piece in thing.pieces()]
    return Thing(pieces, [Peg(names[peg.name], names[peg.one], names[peg.other], peg.ways()) for peg in thing.pegs()])


def without_directions(thing):
    """What a thing tells that no direction stands in."""
    prices = {name: len(name) + ord(name[0]) % 7 for name in thing.names()}
    names = thing.names()
    rows = row_count(thing)
    return {
        'clumps': clumps(thing), 'one': is_one_clump(thing), 'kernel': kernel(thing), 'held': kernel(thing, held=names[:2]),
        'rows': rows, 'row': [full_row(thing, at) for at in range(min(rows, 5))], 'doors': [doors(thing, name) for name in names],
        'before': [surely_before(thing, one, other) for one, other in itertools.permutations(names, 2) if other not in kernel(thing)[0]],
        'fewest': fewest_turnings(thing), 'prices': [price_of(thing, name, prices) for name in names],
        'cheaper': [cheaper_sets(thing, name, prices) for name in names], 'gone': list(gone_sets(thing)),
        'freeing': [freeing_pegs(thing, name) for name in names], 'looked': look(paper_text(thing)), 'heirs': heirs(thing, thing),
        'many': sorted(len(taken_apart(thing, [pick] * 9)) for pick in range(3)),
    }


class PlaceTests(unittest.TestCase):
    def test_what_no_direction_stands_in_stays(self):
        for _, thing in drawn(1101, 15) + [(None, Thing(HOOKS)), (None, PEGGED_ROW), (None, Thing([FRAME, INNER]))]:
            expected = without_directions(thing)
            for change, _ in CHANGES.values():
                self.assertEqual(without_directions(change(thing)), expected)

    def test_directions_are_changed_along(self):
        for chance, thing in drawn(1102, 12) + [(random.Random(1), Thing(HOOKS))]:
            for change, along in CHANGES.values():
                other = change(thing)
                if len(compass(thing)) > 1:
                    self.assertEqual(compass(other), in_round([along(direction) for direction in compass(thing)]))
                directions = chance.sample(with_between(compass(thing)), 4)
                for direction in directions:
                    self.check_direction(thing, other, direction, along(direction))
                self.assertEqual([lot.told() for lot in finest_state(other, [along(direction) for direction in directions]).lots()],
                                 [lot.told() for lot in finest_state(thing, directions).lots()])

    def check_direction(self, thing, other, direction, changed):
        lot, changed_lot = Lot(thing), Lot(other)
        self.assertEqual(web(other, changed), web(thing, direction))
        self.assertEqual([barred_by(other, name, changed) for name in other.names()], [barred_by(thing, name, direction) for name in thing.names()])
        self.assertEqual(list(changed_lot.leaving(changed)), list(lot.leaving(direction)))
        self.assertEqual(changed_lot.row_count(changed), lot.row_count(direction))
        self.assertEqual(changed_lot.row_at(changed, 0), lot.row_at(direction, 0))
        prices = {name: at % 3 for at, name in enumerate(thing.names())}
        self.assertEqual([price_of(other, name, prices, only=changed) for name in prices], [price_of(thing, name, prices, only=direction) for name in prices])

    def test_steps_are_changed_along(self):
        for chance, thing in drawn(1103, 20):
            steps = taken_apart(thing, [chance.randint(0, 99) for _ in range(12)])
            for change, along in CHANGES.values():
                there = [('part', along(step[1]), step[2]) if step[0] == 'part' else step for step in steps]
                self.assertEqual([lot.told() for lot in played(change(thing), there).lots()], [lot.told() for lot in played(thing, steps).lots()])
                self.assertEqual(turnings(there), turnings(steps))
                self.assertEqual(len(turned_back(change(thing), there)), len(steps))


class NameTests(unittest.TestCase):
    def told_in(self, value, names):
        """A value in which all names are told by other ones."""
        if isinstance(value, (list, tuple)):
            return type(value)(self.told_in(item, names) for item in value)
        if isinstance(value, dict):
            return {self.told_in(key, names): self.told_in(item, names) for key, item in value.items()}
        return names.get(value, value) if isinstance(value, str) else value

    def test_names_in_the_same_order(self):
        for _, thing in drawn(1104, 20) + [(None, Thing(HOOKS)), (None, renamed(PEGGED_ROW, {**SAME_ORDER, 'pin': 'u', 'held': 't', 'glue': 's'}))]:
            names = {name: 'n' + name for name in thing.names() + thing.peg_names()}
            other = renamed(thing, names)
            for call in [lambda it: compass(it), lambda it: clumps(it), kernel, taken_apart, lambda it: State(it).offers(), emptied, turning_row,
                         lambda it: [doors(it, name) for name in it.names()], lambda it: list(gone_sets(it)), lambda it: building(it)[1],
                         lambda it: [freeing_pegs(it, name) for name in it.names()], lambda it: heirs(it, it), row_count,
                         lambda it: [full_row(it, at) for at in range(min(row_count(it), 9))], lambda it: finest_state(it, compass(it)[:2]).told(),
                         lambda it: [fetched(it, name, {key: 2 for key in it.names()}) for name in it.names()]]:
                self.assertEqual(call(other), self.told_in(call(thing), names))

    def test_names_in_another_order(self):
        for chance, thing in drawn(1105, 25):
            for names in (SAME_ORDER, OTHER_ORDER):
                other = renamed(thing, names)
                self.assertEqual(self.sets(clumps(other)), self.sets(self.told_in(clumps(thing), names)))
                self.assertEqual([set(found) for found in kernel(other)], [set(self.told_in(found, names)) for found in kernel(thing)])
                self.assertEqual(row_count(other), row_count(thing))
                self.assertEqual(fewest_turnings(other), fewest_turnings(thing))
                self.assertEqual(self.sets(gone_sets(other)), self.sets(self.told_in(list(gone_sets(thing)), names)))
                self.assertEqual(compass(other), compass(thing))
                for name in thing.names():
                    self.assertEqual(self.sets(doors(other, names[name])), self.sets(self.told_in(doors(thing, name), names)))
                    self.assertEqual(self.sets(freeing_pegs(other, names[name])), self.sets(self.told_in(freeing_pegs(thing, name), names)))
                    prices = {key: chance.randint(0, 9) for key in thing.names()}
                    self.assertEqual(price_of(other, names[name], {names[key]: prices[key] for key in prices}), price_of(thing, name, prices))
                self.assertEqual(look(paper_text(other)), look(paper_text(thing)))
                row = full_row(thing, chance.randrange(row_count(thing)))
                self.assertTrue(is_row(other, self.told_in(row, names)))

    def sets(self, rows):
        """Sets of names, or pairs of such, whatever their order."""
        return {frozenset(row) if not row or isinstance(row[0], str) else tuple(frozenset(part) for part in row) for row in rows}

    def test_another_order_of_handing_in(self):
        for chance, thing in drawn(1106, 20, 6, 4):
            pieces, pegs = thing.pieces(), thing.pegs()
            chance.shuffle(pieces)
            chance.shuffle(pegs)
            told_from_another_corner = [Piece(piece.name, [part[1:] + part[:1] for part in piece.parts()][::-1]) for piece in pieces]
            other = Thing(tuple(told_from_another_corner), tuple(Peg(peg.name, peg.other, peg.one, peg.ways()) for peg in pegs))
            self.assertEqual(other, thing)
            self.assertEqual(without_directions(other), without_directions(thing))
            for call in (compass, taken_apart, emptied, turning_row, lambda it: building(it)[1], paper_text, lambda it: State(it).offers(),
                         lambda it: [fetched(it, name, {key: 1 for key in it.names()}) for name in it.names()]):
                self.assertEqual(call(other), call(thing))
            self.assertEqual(ended_state(other), ended_state(thing))
            self.assertEqual(building(other), building(thing))


class WayTests(unittest.TestCase):
    def test_all_ways_of_taking_steps_lead_to_the_same_states(self):
        for chance, thing in drawn(1107, 30, 5, 4):
            steps = taken_apart(thing, [chance.randint(0, 99) for _ in range(20)])
            works, lines = Works(), Works()
            for job in (works, lines):
                job.do(('put', 'job', thing))
            state = State(thing)
            traced = [state for _, state in trace(thing, written(steps))]
            for at, step in enumerate(steps):
                state = state.after(step)
                works.do(('step', 'job', step))
                words = [str(step[1][0]), str(step[1][1]), *step[2]] if step[0] == 'part' else [step[1]]
                lines.say(' '.join([step[0], 'job', *words]))
                self.assertEqual([works.bench('job'), lines.bench('job'), traced[at], played(thing, steps[:at + 1])], [state] * 4)
            self.assertEqual(run(thing, written(steps)), state)
            self.assertEqual(run(thing, shortened(written(steps))), state)
            self.assertEqual(state, ended_state(thing))
            self.assertEqual(rebuilt(state, turned_back(thing, steps)), State(thing))
            self.assertEqual(works, lines)

    def test_refused_alike(self):
        for chance, thing in drawn(1108, 30, 5, 4):
            for _ in range(10):
                names = tuple(sorted(chance.sample(thing.names() + ['zz'], chance.randint(1, len(thing)))))
                step = chance.choice([('part', chance.choice(with_between(compass(thing))), names),
                                      ('draw', chance.choice(thing.peg_names() + ['zz', 'a']))])
                error = caught(State(thing).after, step)
                works = Works()
                works.do(('put', 'job', thing))
                self.assertEqual(caught(works.twin().do, ('step', 'job', step)), error)
                self.assertEqual(caught(played, thing, [step]), error)
                self.assertEqual(caught(turned_back, thing, [step]), error)
                line = written([step]).count('\n') - 1
                self.assertEqual(caught(run, thing, written([step])), error and ('Refused', {'line': line, 'why': error[0]}))
                words = [str(step[1][0]), str(step[1][1]), *step[2]] if step[0] == 'part' else [step[1]]
                self.assertEqual(works.say(' '.join([step[0], 'job', *words])), f'error {error[0]}' if error else 'done')


class AgreementTests(unittest.TestCase):
    def test_papers_clumps_and_kernels(self):
        for chance, thing in drawn(1109, 40, 6, 4):
            found = clumps(thing)
            self.assertEqual(look(paper_text(thing, [chance.randint(0, 9) for _ in range(9)])), ('clumps', len(found)))
            self.assertEqual([lot.told() for lot in ended_state(thing).lots()], found)
            self.assertEqual(is_one_clump(thing), len(found) == 1)
            for names, pegs in found:
                lot = Lot(thing, names, fast=pegs)
                self.assertTrue(lot.is_stuck())
                self.assertTrue(is_stuck_paper(lot, stuck_paper(lot)))
                self.assertTrue(still_holds(thing, thing, names[0], stuck_paper(lot)))
                self.assertEqual([clump_of(thing, name) for name in names], [(names, pegs)] * len(names))
                # Pieces of a clump of several are in the kernel, each one of them.
                if len(names) > 1:
                    self.assertLessEqual(set(names), set(kernel(thing)[0]))

    def test_prices_doors_and_rows(self):
        for chance, thing in drawn(1110, 40, 5, 3):
            gone = list(gone_sets(thing))
            prices = {name: chance.randint(0, 9) for name in thing.names()}
            for name in thing.names():
                steps = fetched(thing, name, prices)
                self.assertIn(tuple(carried(thing, steps)), gone)
                self.assertEqual(sum(prices[other] for other in carried(thing, steps)), price_of(thing, name, prices))
                self.assertIn((), cheaper_sets(thing, name, prices) or [()])
                # What leaves one by one can be carried off, too; so a row is no cheaper than the price.
                if name not in kernel(thing)[0]:
                    row = full_row(thing, chance.randrange(row_count(thing)))
                    self.assertLessEqual(price_of(thing, name, prices), sum(prices[other] for other in row[:row.index(name) + 1]))
            row = full_row(thing, 0)
            for many in range(len(row) + 1):
                self.assertIn(tuple(sorted(row[:many])), gone)
            self.assertEqual(full_index(thing, row), 0)
            if not thing.pegs():
                for name in thing.names():
                    self.assertEqual(doors(thing, name)[:1] == [()], is_row(thing, [name]))

    def test_turnings(self):
        for _, thing in drawn(1111, 40, 6, 3):
            row = turning_row(thing)
            self.assertEqual([len(row), finest_state(thing, row)], [fewest_turnings(thing), ended_state(thing)])
            self.assertEqual(fewest_turnings(thing) == 0, finest_state(thing, []).is_ended())
            self.assertLessEqual(fewest_turnings(thing), max(0, len(clumps(thing)) - 1))
            for pick in range(3):
                self.assertLessEqual(fewest_turnings(thing), turnings(taken_apart(thing, [pick] * 20)))

    def test_changes(self):
        for _, thing in drawn(1112, 40, 5, 4):
            for name in thing.names():
                free = freeing_pegs(thing, name)
                self.assertEqual(free == [()], name not in kernel(thing)[0])
            for peg in thing.peg_names():
                later = heirs(thing, thing.without_peg(peg))
                self.assertEqual(sorted(clump for found in later.values() for clump in found), clumps(thing.without_peg(peg)))

    def test_directions_that_stand_for_others(self):
        for chance, thing in drawn(1113, 30):
            for direction in chance.sample(with_between(compass(thing)), 4):
                stand = stands_for(thing, direction)
                self.assertLessEqual(set(web(thing, stand)), set(web(thing, direction)))
                self.assertEqual(web(thing, turned_half(direction)), sorted((other, one) for one, other in web(thing, direction)))
                self.assertTrue(finest_state(thing, [stand]).is_finer(finest_state(thing, [direction])))
                prices = {name: chance.randint(0, 9) for name in thing.names()}
                for name in thing.names():
                    self.assertLessEqual(price_of(thing, name, prices, only=stand), price_of(thing, name, prices, only=direction))

    def test_texts(self):
        for _, thing in drawn(1114, 20, 6, 4):
            other = Thing.read(thing.text())
            self.assertEqual(without_directions(other), without_directions(thing))
            self.assertTrue(paper_text(thing).startswith(thing.text()))


class ConventionTests(unittest.TestCase):
    def test_generators_raise_when_their_first_item_is_requested(self):
        for pairs, expected in [(Lot(PEGGED_ROW).leaving(None), ('InvalidDirection', {'value': None})),
                                (trace(PEGGED_ROW, None), ('InvalidText', {'line': 0, 'why': 'form'})),
                                (trace(PEGGED_ROW, 'draw held\n'), ('Refused', {'line': 0, 'why': 'Held'}))]:
            self.assertTrue(inspect.isgenerator(pairs))
            self.assertEqual(caught(next, pairs), expected)

    def test_nothing_that_is_passed_is_changed(self):
        thing = Thing(ROW, PEGGED_ROW.pegs())
        before = (thing.text(), State(thing).told())
        steps = [('draw', 'pin'), ('part', UP, ('b', 'c'))]
        passed = [['a', 'c'], ['pin'], [UP, UP], [3, 1], steps, {name: 1 for name in 'abcd'}, [('draw', 'pin')], [('carry', UP, ('a', 'd'))]]
        copies = [list(value) if isinstance(value, list) else dict(value) for value in passed]
        held, fast, directions, picks, _, prices, draws, carries = passed
        lot = Lot(thing, ['a', 'b', 'c'], fast=fast)
        calls = [lambda: kernel(thing, held=held), lambda: emptied(thing, held=held), lambda: row_count(thing, held=held),
                 lambda: full_row(thing, 0, held=held), lambda: is_row(thing, held, held=held), lambda: compass(thing, held),
                 lambda: finest_state(thing, directions), lambda: taken_apart(thing, picks), lambda: paper_text(thing, picks),
                 lambda: played(thing, steps), lambda: turned_back(thing, steps), lambda: written(steps), lambda: turnings(steps),
                 lambda: price_of(thing, 'a', prices), lambda: fetched(thing, 'a', prices), lambda: cheaper_sets(thing, 'a', prices),
                 lambda: rebuilt(State(thing), []), lambda: carried(thing, draws + carries), lambda: lot.can_leave(UP, held),
                 lambda: thing.part_of(held), lambda: lot.parted(UP, held)]
        for call in calls:
            caught(call)
            self.assertEqual(passed, copies)
            self.assertEqual((thing.text(), State(thing).told(), lot.told()), (*before, (('a', 'b', 'c'), ('pin',))))

    def test_lists_that_are_changed_behind_a_call(self):
        held, names = ['a'], ['b', 'c']
        thing = Thing(ROW)
        lot, found = Lot(thing, names), kernel(thing, held=held)
        names.append('a')
        held.append('b')
        found[0].append('z')
        self.assertEqual([lot.names(), kernel(thing, held=['a'])], [['b', 'c'], (['a'], [])])
        works = Works()
        deeds = [('put', 'a', thing), ('put', 'b', thing)]
        works.do(*deeds)
        deeds.clear()
        journal = works.journal()
        other = Works.played(journal)
        journal.append(('undo',))
        self.assertEqual([len(works.journal()), len(other.journal()), other == works], [1, 1, True])

    def test_tuples_may_be_passed_for_lists(self):
        thing = PEGGED_ROW
        prices = {name: 1 for name in 'abcd'}
        for call in [lambda made: kernel(thing, held=made('ab')), lambda made: emptied(thing, held=made('ab')), lambda made: full_row(thing, 0, held=made('a')),
                     lambda made: is_row(thing, made(''), held=made('a')), lambda made: finest_state(thing, made([UP, (1, 0)])),
                     lambda made: played(thing, made([('draw', 'pin')])), lambda made: turned_back(thing, made([('draw', 'pin')])),
                     lambda made: written(made([('draw', 'pin')])), lambda made: turnings(made([('part', UP, ('a',))])),
                     lambda made: carried(thing, made(fetched(thing, 'a', prices))), lambda made: taken_apart(thing, made([1, 2])),
                     lambda made: paper_text(thing, made([1, 2])), lambda made: full_index(thing, made(''), held=made('')),
                     lambda made: rebuilt(State(thing).after(('draw', 'pin')), made([('peg', 'pin')])),
                     lambda made: Works.played(made([('do', (('put', 'a', thing),))])).names()]:
            self.assertEqual(call(tuple), call(list))

    def test_objects_that_list_len_are_true(self):
        for value in [Works(), Thing(ROW), State(Thing(ROW)), Lot(Thing(ROW)), Peg('p', 'a', 'b'), ROW[0]]:
            self.assertIs(bool(value), True)

    def test_any_value_is_no_name_of_a_piece(self):
        thing = PEGGED_ROW
        prices = {name: 1 for name in 'abcd'}
        for value in any_values():
            for call in [lambda: clump_of(thing, value), lambda: doors(thing, value), lambda: surely_before(thing, value, 'a'), lambda: freeing_pegs(thing, value),
                         lambda: price_of(thing, value, prices), lambda: still_holds(thing, thing, value, None), lambda: kernel(thing, held=[value]),
                         lambda: barred_by(thing, value, UP)]:
                self.assertEqual(caught(call), ('UnknownName', {'name': value}))


if __name__ == '__main__':
    unittest.main()
