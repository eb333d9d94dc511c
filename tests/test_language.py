"""Holds the files of the package against those rules of the language that a plain look at the code can see."""

import ast
import builtins
import pathlib
import re
import unittest

PACKAGE = pathlib.Path(__file__).resolve().parent.parent / 'stucklots'
LIBRARY = {
    'heapq': {'heappush', 'heappop', 'heapify', 'heapreplace', 'heappushpop'},
    'math': {'gcd', 'lcm', 'isqrt', 'comb', 'perm', 'factorial'},
    'itertools': {'product', 'combinations', 'permutations'},
}
BUILTINS = set('''len range enumerate zip min max sum abs sorted reversed int str bool bytes list tuple dict set frozenset
    isinstance ord repr any all divmod iter next map Exception ValueError TypeError KeyError IndexError LookupError
    ZeroDivisionError ArithmeticError OverflowError RuntimeError NotImplementedError NotImplemented
    property staticmethod classmethod'''.split())
PLAIN_DUNDERS = set('__init__ __eq__ __repr__ __str__ __len__ __enter__ __exit__ __call__ __iter__'.split())
OPERATORS = set('__bool__ __contains__ __or__'.split())
BARRED_NAMES = set('''register mro elements open input law version_info with_traceback add_note attrgetter breakpoint
    compile copyright credits delattr dir eval exec exit gc getattr globals hasattr help id importlib license locals
    methodcaller os quit setattr super type vars sys'''.split())
BARRED_WORDS = re.compile(r'\b(type|typing|enum|Enum|Generic|Protocol|ABC|namedtuple|NamedTuple|abstractmethod)\b')
METHODS = set('''append clear copy count endswith extend find get index insert isalnum isalpha isdigit islower isspace
    isupper items join keys ljust lower lstrip partition pop remove replace reverse rfind rjust rpartition rsplit rstrip
    setdefault split splitlines startswith strip update upper values zfill bit_length removeprefix removesuffix'''.split())
VIEWS = ('zip', 'enumerate', 'reversed', 'range', 'items', 'keys', 'values')
LEFT_OUT = (ast.AsyncFunctionDef, ast.AsyncFor, ast.AsyncWith, ast.Await, ast.Global, ast.Div, ast.MatMult, ast.AnnAssign)


def sources():
    return {path.name: path.read_text(encoding='utf-8') for path in sorted(PACKAGE.glob('*.py'))}


def is_docstring(node):
    return isinstance(node, ast.Expr) and isinstance(node.value, ast.Constant) and isinstance(node.value.value, str)


def without_docstrings(tree):
    for node in ast.walk(tree):
        if isinstance(node, (ast.Module, ast.ClassDef, ast.FunctionDef)) and node.body and is_docstring(node.body[0]):
            node.body = node.body[1:] or [ast.Pass()]
    return tree


def bound_names(tree):
    """Each name that a function, a class, a parameter, a variable or an import of a file has."""
    for node in ast.walk(tree):
        if isinstance(node, ast.Name) and isinstance(node.ctx, ast.Store):
            yield node.id
        elif isinstance(node, ast.arg):
            yield node.arg
        elif isinstance(node, ast.ClassDef):
            yield node.name
        elif isinstance(node, ast.alias):
            yield node.asname or node.name
    for node in tree.body:
        if isinstance(node, ast.FunctionDef):
            yield node.name


def nodes(kind):
    """Where they stand, and the nodes of a kind in all files of the package, docstrings left out."""
    for name, source in sources().items():
        for node in ast.walk(without_docstrings(ast.parse(source))):
            if isinstance(node, kind):
                yield f'{name}:{getattr(node, "lineno", "?")}', node


def parents(tree):
    """By each node of a file the node around it."""
    return {child: node for node in ast.walk(tree) for child in ast.iter_child_nodes(node)}


def own_methods():
    """The names of all methods of the package."""
    return {part.name for _, node in nodes(ast.ClassDef) for part in node.body if isinstance(part, ast.FunctionDef)}


class LanguageTests(unittest.TestCase):
    def test_the_folder_has_python_files_alone(self):
        others = [path.name for path in PACKAGE.iterdir() if path.suffix != '.py' and path.name != '__pycache__']
        self.assertEqual(others, [])
        for name in sources():
            self.assertRegex(name, r'^[a-z_][a-z0-9_]*\.py$')

    def test_characters_and_sizes(self):
        for name, source in sources().items():
            self.assertLessEqual(len(source.splitlines()), 399, name)
            self.assertTrue(source.endswith('\n'), name)
            for line in source.split('\n'):
                self.assertLessEqual(len(line), 120, name)
                self.assertRegex(line, r'^[ -~]*$', name)
        for where, node in nodes(ast.FunctionDef):
            self.assertLessEqual(node.end_lineno - node.lineno + 1, 40, where)

    def test_imports(self):
        for where, node in nodes(ast.Import):
            self.fail(where)
        for name, source in sources().items():
            tree = ast.parse(source)
            for node in ast.walk(tree):
                if isinstance(node, ast.ImportFrom):
                    self.assertIn(node, tree.body, name)
                    self.check_import(name, node)

    def check_import(self, where, node):
        names = {alias.name for alias in node.names}
        self.assertEqual({alias.asname for alias in node.names}, {None}, where)
        self.assertEqual(node.level, 0, where)
        self.assertLessEqual(names, LIBRARY.get(node.module) or self.defined_in(node.module), where)

    def defined_in(self, module):
        package, name = module.split('.')
        self.assertEqual(package, 'stucklots')
        body = ast.parse(sources()[name + '.py']).body
        named = {node.name for node in body if isinstance(node, (ast.FunctionDef, ast.ClassDef))}
        return named | {node.targets[0].id for node in body if isinstance(node, ast.Assign)}

    def test_no_two_files_import_from_each_other(self):
        needs = {}
        for where, node in nodes(ast.ImportFrom):
            if node.module not in LIBRARY:
                needs.setdefault(where.split(':')[0], set()).add(node.module.split('.')[1] + '.py')
        left = set(sources())
        while left:
            free = {name for name in left if not needs.get(name, set()) & left}
            self.assertTrue(free, left)
            left -= free

    def test_module_level(self):
        for name, source in sources().items():
            bound = []
            for node in without_docstrings(ast.parse(source)).body:
                self.assertIsInstance(node, (ast.ImportFrom, ast.FunctionDef, ast.ClassDef, ast.Assign, ast.Pass), name)
                if isinstance(node, ast.ImportFrom):
                    bound += [alias.name for alias in node.names]
                elif isinstance(node, ast.Assign):
                    bound += [target.id for target in node.targets]
                elif not isinstance(node, ast.Pass):
                    bound.append(node.name)
            self.assertEqual(len(bound), len(set(bound)), name)

    def test_names(self):
        barred = set(dir(builtins)) | BARRED_NAMES
        for file, source in sources().items():
            for name in bound_names(ast.parse(source)):
                self.assertRegex(name, r'^(_|_?[A-Za-z][A-Za-z0-9_]*)$', file)
                self.assertNotIn(name, barred, file)
        for where, node in nodes(ast.Attribute):
            self.assertNotIn(node.attr, BARRED_NAMES, where)

    def test_no_parameter_or_variable_has_the_name_of_a_class_or_an_import(self):
        for file, source in sources().items():
            tree = ast.parse(source)
            taken = {alias.name for node in tree.body if isinstance(node, ast.ImportFrom) for alias in node.names}
            taken |= {node.name for node in tree.body if isinstance(node, ast.ClassDef)}
            for node in ast.walk(tree):
                if isinstance(node, ast.Name) and isinstance(node.ctx, ast.Store):
                    self.assertNotIn(node.id, taken, file)
                elif isinstance(node, ast.arg):
                    self.assertNotIn(node.arg, taken, file)

    def test_builtins(self):
        known = set(dir(builtins))
        for where, node in nodes(ast.Name):
            if isinstance(node.ctx, ast.Load) and node.id in known:
                self.assertIn(node.id, BUILTINS, where)

    def test_double_underscore_methods_and_decorators(self):
        for where, node in nodes(ast.FunctionDef):
            if node.name.startswith('__'):
                self.assertIn(node.name, PLAIN_DUNDERS | OPERATORS, where)
            for decorator in node.decorator_list:
                self.assertIn(ast.unparse(decorator), ('property', 'staticmethod', 'classmethod'), where)

    def test_what_is_left_out(self):
        self.assertEqual([where for where, node in nodes(LEFT_OUT)], [])

    def test_plain_values(self):
        for where, node in nodes(ast.Constant):
            self.assertNotIsInstance(node.value, (float, complex), where)
            if isinstance(node.value, str):
                self.assertNotIn('%', node.value, where)

    def test_words_that_do_not_occur(self):
        for file, source in sources().items():
            self.assertNotRegex(ast.unparse(without_docstrings(ast.parse(source))), BARRED_WORDS, file)

    def test_methods_are_own_ones_or_listed(self):
        allowed = own_methods() | METHODS
        for where, node in nodes(ast.Call):
            if isinstance(node.func, ast.Attribute):
                self.assertIn(node.func.attr, allowed, where)

    def test_no_name_is_a_method_and_an_attribute(self):
        methods = own_methods()
        for where, node in nodes(ast.Attribute):
            if isinstance(node.ctx, ast.Store):
                self.assertNotIn(node.attr, methods, where)

    def test_lists_stand_in_place_of_generator_expressions(self):
        self.assertEqual([where for where, node in nodes(ast.GeneratorExp)], [])

    def test_generators_have_names_of_their_own_and_are_iterated_at_once(self):
        functions = [node for _, node in nodes(ast.FunctionDef)]
        names = [node.name for node in functions]
        for node in functions:
            if any(isinstance(part, (ast.Yield, ast.YieldFrom)) for part in ast.walk(node)):
                self.assertEqual(names.count(node.name), 1, node.name)
                self.assertNotIn(node.name, METHODS)
                self.assertEqual([part for part in ast.walk(node) if isinstance(part, ast.Return) and part.value], [])
                for where, call in nodes(ast.Call):
                    self.assertNotIn(ast.unparse(call.func).split('.')[-1], [node.name], where)

    def test_sets_stand_where_they_may(self):
        for file, source in sources().items():
            tree = ast.parse(source)
            around = parents(tree)
            for node in ast.walk(tree):
                made = isinstance(node, ast.Call) and ast.unparse(node.func) in ('set', 'frozenset')
                if made or isinstance(node, (ast.Set, ast.SetComp)):
                    outer = around[node]
                    within = isinstance(outer, ast.Call) and ast.unparse(outer.func) in ('sorted', 'len') and not outer.keywords
                    tested = isinstance(outer, ast.Compare) and node in outer.comparators and isinstance(outer.ops[0], ast.In)
                    self.assertTrue(within or tested, f'{file}:{node.lineno}')

    def test_views_are_iterated_on_the_spot(self):
        takers = ('list', 'tuple', 'dict', 'sorted', 'sum', 'any', 'all', 'enumerate', 'zip', 'min', 'max', 'len')
        for file, source in sources().items():
            tree = ast.parse(source)
            around = parents(tree)
            for node in ast.walk(tree):
                if isinstance(node, ast.Call) and ast.unparse(node.func).split('.')[-1] in VIEWS:
                    outer = around[node]
                    looped = isinstance(outer, (ast.For, ast.comprehension)) and outer.iter is node
                    taken = isinstance(outer, ast.Call) and ast.unparse(outer.func) in takers and outer.args[0] is node
                    self.assertTrue(looped or taken, f'{file}:{node.lineno}')

    def test_errors_that_are_raised_and_caught_are_own_ones(self):
        own = {node.name for node in ast.parse(sources()['errors.py']).body if isinstance(node, ast.ClassDef)}
        for where, node in nodes(ast.Raise):
            self.assertIsInstance(node.exc, ast.Call, where)
            self.assertIn(ast.unparse(node.exc.func), own, where)
        for where, node in nodes(ast.ExceptHandler):
            names = [ast.unparse(name) for name in (node.type.elts if isinstance(node.type, ast.Tuple) else [node.type])]
            self.assertLessEqual(set(names), own, where)

    def test_finally_assigns_plain_values(self):
        for where, node in nodes(ast.Try):
            for part in node.finalbody:
                self.assertIsInstance(part, ast.Assign, where)
                self.assertIsInstance(part.value, (ast.Name, ast.Attribute, ast.Constant), where)

    def test_behind_a_star_of_a_call_stands_a_name(self):
        for where, node in nodes(ast.Call):
            for part in node.args:
                if isinstance(part, ast.Starred):
                    self.assertIsInstance(part.value, (ast.Name, ast.Attribute), where)
            self.assertNotIn(None, [part.arg for part in node.keywords], where)

    def test_default_values_and_class_values_are_plain(self):
        for where, node in nodes(ast.FunctionDef):
            for value in node.args.defaults + [part for part in node.args.kw_defaults if part]:
                ast.literal_eval(value)
            self.assertNotIsInstance(node.args.kwarg, ast.arg, where)
        for where, node in nodes(ast.ClassDef):
            for part in node.body:
                if isinstance(part, ast.Assign):
                    self.assertIsInstance(part.value, ast.Constant, where)

    def test_strings_within_braces(self):
        for where, node in nodes(ast.JoinedStr):
            for part in ast.walk(node):
                if isinstance(part, ast.FormattedValue):
                    self.assertFalse([inner for inner in ast.walk(part.value) if isinstance(inner, ast.Constant) and isinstance(inner.value, str)], where)

    def test_no_library_name_is_passed_on(self):
        for where, node in nodes(ast.Call):
            if ast.unparse(node.func) == 'combinations':
                self.assertIsInstance(node.args[0], ast.Name, where)
                self.assertIsInstance(node.args[1], ast.Name, where)

    def test_is_stands_beside_none_true_and_false(self):
        for where, node in nodes(ast.Compare):
            for operator, right in zip(node.ops, node.comparators):
                if isinstance(operator, (ast.Is, ast.IsNot)):
                    self.assertIn(ast.unparse(right), ('None', 'True', 'False'), where)


if __name__ == '__main__':
    unittest.main()
