"""Every name of the interface, with its arguments and defaults, where the interface lists it."""

import importlib
import inspect
import unittest

# By module: the functions and the classes as the document writes them, a class with its methods, properties and values.
FUNCTIONS = {
    'words': ['is_name(value)', 'is_point(value)', 'is_direction(value)', 'is_way(value)', 'is_number(value, least, most)', 'number_in(text)'],
    'rounds': ['cross(one, other)', 'turned_half(direction)', 'reduced(pair)', 'in_round(directions)', 'next_in_round(directions, direction)'],
    'parts': ['is_part(value)', 'part_told(part)', 'area_twice(part)', 'overlap(part, other)', 'joined(part, other)', 'differences(part, other)',
              'side(part, other, direction)'],
    'thingtexts': ['thing_text(thing)', 'read_thing(text)', 'read_thing_head(text)'],
    'bars': ['part_arc(part, other)', 'arc_of(piece, other)', 'bars(piece, other, direction)', 'sides(piece, other, direction)'],
    'compass': ['compass(thing, names=None)', 'web(thing, direction, names=None)', 'stands_for(thing, direction, names=None)',
                'barred_by(thing, name, direction)'],
    'clumps': ['taken_apart(thing, picks=())', 'played(thing, steps)', 'ended_state(thing)', 'clumps(thing)', 'clump_of(thing, name)',
               'is_one_clump(thing)'],
    'stuck': ['stuck_paper(lot)', 'is_stuck_paper(lot, paper)', 'is_walk(lot, direction, walk)'],
    'singles': ['kernel(thing, *, held=())', 'emptied(thing, *, held=())', 'is_row(thing, names, *, held=())', 'row_count(thing, *, held=())',
                'full_row(thing, index, *, held=())', 'full_index(thing, names, *, held=())', 'surely_before(thing, one, other)',
                'doors(thing, name)'],
    'instructions': ['done_lines(text)', 'plain_steps(text)', 'written(steps)', 'shortened(text)', 'turnings(steps)', 'run(thing, text)',
                     'trace(thing, text)'],
    'building': ['turned_back(thing, steps)', 'rebuilt(state, steps)', 'building(thing)'],
    'turnings': ['finest_state(thing, directions)', 'fewest_turnings(thing)', 'turning_row(thing)'],
    'spares': ['price_of(thing, name, prices, *, only=None)', 'fetched(thing, name, prices, *, only=None)', 'carried(thing, steps)',
               'cheaper_sets(thing, name, prices)', 'gone_sets(thing)'],
    'changes': ['heirs(old, new)', 'still_holds(old, new, name, paper)', 'freeing_pegs(thing, name)'],
    'papers': ['paper_text(thing, picks=())', 'look(text)'],
}
CLASSES = {
    'pieces': ('Piece(name, parts)', ['parts()', 'overlaps(other)', 'moved(right, up)', 'turned(quarters=1)', 'mirrored()', 'bars_way(way)'],
               ['area'], {'PARTS': 4}),
    'pegs': ('Peg(name, one, other, ways=())', ['ways()', 'ties(one, other)', 'with_way(way)', 'moved(right, up)', 'turned(quarters=1)',
                                                'mirrored()'], ['is_glue'], {}),
    'things': ('Thing(pieces, pegs=())', ['names()', 'pieces()', 'piece(name)', 'peg_names()', 'pegs()', 'peg_called(name)', 'pegs_of(name)',
                                          'with_piece(piece)', 'without_piece(name)', 'with_peg(peg)', 'without_peg(name)', 'with_way(name, way)',
                                          'part_of(names)', 'moved(right, up)', 'turned(quarters=1)', 'mirrored()', 'text()'],
               [], {'PIECES': 9, 'PEGS': 8}),
    'arcs': ('Arc(start, stop)', ['ends()', 'turned()', 'covers(other)'], ['start', 'stop', 'is_whole'], {}),
    'lots': ('Lot(thing, names=None, *, fast=None)', [
        'names()', 'pegs()', 'told()', 'compass()', 'leans(one, other, direction)', 'least(direction, name)', 'can_leave(direction, names)',
        'leaving(direction)', 'groups(direction)', 'row_count(direction)', 'row_at(direction, index)', 'row_index(direction, row)',
        'parted(direction, names)', 'drawable(peg)', 'drawn(peg)', 'is_stuck()', 'within(other)'], [], {}),
    'states': ('State(thing)', ['lots()', 'fast()', 'lot_of(name)', 'offers()', 'is_ended()', 'after(step)', 'built(step)', 'is_finer(other)'],
               [], {}),
    'works': ('Works()', ['do(*deeds)', 'undo()', 'redo()', 'history()', 'tried(*deeds)', 'names()', 'thing_of(name)', 'bench(name)', 'say(line)',
                          'log()', 'journal()', 'twin()'], ['many', 'busy'], {'MOST': 6}),
}
OPERATORS = {
    'pieces': ['__eq__', '__len__', '__repr__'], 'pegs': ['__eq__', '__len__', '__repr__'],
    'things': ['__eq__', '__len__', '__repr__', '__contains__'], 'arcs': ['__eq__', '__len__', '__repr__', '__contains__', '__or__'],
    'lots': ['__eq__', '__len__', '__repr__', '__contains__', '__or__'], 'states': ['__eq__', '__len__', '__repr__'],
    'works': ['__eq__', '__len__', '__repr__', '__contains__', '__call__'],
}
STATIC = {'things': ('read(text)', staticmethod), 'arcs': ('whole()', classmethod), 'works': ('played(journal)', classmethod)}


def module_of(name):
    return importlib.import_module(f'stucklots.{name}')


def called(name, function, skipped=0):
    """A function as the document writes it, with its first parameters skipped."""
    parameters = list(inspect.signature(function).parameters.values())[skipped:]
    return name + str(inspect.Signature(parameters))


class InterfaceTests(unittest.TestCase):
    def test_functions(self):
        for module, listed in FUNCTIONS.items():
            for told in listed:
                name = told.split('(')[0]
                function = getattr(module_of(module), name)
                self.assertEqual(called(name, function), told)
                self.assertEqual(function.__module__, f'stucklots.{module}')

    def test_classes(self):
        for module, (told, methods, properties, values) in CLASSES.items():
            name = told.split('(')[0]
            kind = getattr(module_of(module), name)
            self.assertEqual(called(name, kind), told)
            self.assertEqual(kind.__module__, f'stucklots.{module}')
            for method in methods:
                word = method.split('(')[0]
                self.assertEqual(called(word, vars(kind)[word], 1), method)
            for word in properties:
                self.assertIsInstance(vars(kind)[word], property)
            for word, value in values.items():
                self.assertEqual(vars(kind)[word], value)

    def test_static_and_class_methods(self):
        for module, (told, kind) in STATIC.items():
            name = told.split('(')[0]
            owner = getattr(module_of(module), CLASSES[module][0].split('(')[0])
            self.assertIsInstance(vars(owner)[name], kind)
            self.assertEqual(called(name, getattr(owner, name)), told)

    def test_operators_stand_in_the_class_itself(self):
        for module, names in OPERATORS.items():
            kind = getattr(module_of(module), CLASSES[module][0].split('(')[0])
            for name in names:
                self.assertIn(name, vars(kind))
                self.assertTrue(callable(vars(kind)[name]))

    def test_generators(self):
        for module, name in (('instructions', 'trace'), ('spares', 'gone_sets')):
            self.assertTrue(inspect.isgeneratorfunction(getattr(module_of(module), name)))
        self.assertTrue(inspect.isgeneratorfunction(module_of('lots').Lot.leaving))


if __name__ == '__main__':
    unittest.main()
