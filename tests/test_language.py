"""The package's files keep to the part of Python that they are to be written in, as far as can be seen from outside."""

import ast
import pathlib
import re
import unittest

PACKAGE = pathlib.Path(__file__).resolve().parent.parent / 'indexfile'
FILES = sorted(PACKAGE.glob('*.py'))

STATEMENTS = (ast.Assign, ast.AugAssign, ast.If, ast.While, ast.For, ast.Return, ast.Break, ast.Continue, ast.Pass,
              ast.Raise, ast.Try, ast.Expr, ast.FunctionDef)
EXPRESSIONS = (ast.Constant, ast.List, ast.Tuple, ast.Dict, ast.BinOp, ast.UnaryOp, ast.BoolOp, ast.Compare, ast.IfExp,
               ast.Call, ast.Attribute, ast.Subscript, ast.Slice, ast.ListComp, ast.JoinedStr, ast.FormattedValue,
               ast.Name, ast.Lambda)
BUILT_INS = set('''len range enumerate zip min max sum abs sorted reversed int str bool list tuple dict set frozenset
    isinstance ord repr any all divmod Exception ValueError TypeError KeyError IndexError LookupError
    ZeroDivisionError ArithmeticError OverflowError RuntimeError NotImplementedError AttributeError
    StopIteration'''.split())
PYTHONS_OWN = set(dir(__builtins__) if not isinstance(__builtins__, dict) else __builtins__)
METHODS = set('''append clear copy count endswith extend find get index insert isalnum isalpha isdigit islower isspace
    isupper items join keys ljust lower lstrip partition pop remove replace reverse rfind rjust rpartition rsplit rstrip
    setdefault split splitlines startswith strip update upper values zfill bit_length'''.split())
NEVER_NAMES = set('''register mro elements open input version_info with_traceback add_note attrgetter breakpoint builtins
    compile copyright credits delattr dir eval exec exit gc getattr globals hasattr help id importlib license locals
    methodcaller os quit setattr super type vars sys'''.split())
NEVER_WORDS = set('''type typing typing_extensions enum Enum IntEnum StrEnum Flag IntFlag Generic Protocol ABC ABCMeta
    namedtuple NamedTuple TypedDict TYPE_CHECKING abstractmethod'''.split())
PYTHONS_METHODS = {name for kind in (str, int, list, dict, set, bytes, tuple) for name in dir(kind)}


def trees():
    return [(path, ast.parse(path.read_text('ascii'))) for path in FILES]


def nodes(*kinds):
    return [(path, node) for path, tree in trees() for node in ast.walk(tree) if isinstance(node, kinds)]


class LanguageTest(unittest.TestCase):
    def test_the_folder_holds_python_files_alone(self):
        names = {path.name for path in PACKAGE.iterdir()} - {'__pycache__'}
        self.assertEqual(names, {path.name for path in FILES})
        for name in names - {'__init__.py'}:
            self.assertRegex(name, r'^[a-z][a-z0-9_]*\.py$')

    def test_sizes_and_signs(self):
        for path in FILES:
            rows = path.read_bytes().decode('ascii').split('\n')
            self.assertLess(len(rows), 400, path)
            for row in rows:
                self.assertLessEqual(len(row), 120, path)
                self.assertRegex(row, r'^[ -~]*$', path)
        for path, node in nodes(ast.FunctionDef):
            self.assertLessEqual(node.end_lineno - node.lineno + 1, 40, (path, node.name))

    def test_words_that_stand_nowhere(self):
        for path in FILES:
            text = path.read_text()
            self.assertEqual(set(re.findall(r'\w+', text)) & NEVER_WORDS, set(), path)
            self.assertNotRegex(text, 'dataclass|overload|contextmanager', path)

    def test_the_top_of_a_file(self):
        allowed = (ast.ImportFrom, ast.FunctionDef, ast.ClassDef, ast.Assign)
        for path, tree in trees():
            self.assertTrue(ast.get_docstring(tree), path)
            bound = []
            for node in tree.body[1:]:
                self.assertIsInstance(node, allowed, path)
                bound += [node.name] if hasattr(node, 'name') else []
                bound += [one.id for one in node.targets] if isinstance(node, ast.Assign) else []
                bound += [one.name for one in node.names] if isinstance(node, ast.ImportFrom) else []
                if isinstance(node, ast.Assign):
                    self.assertIsInstance(node.value, (ast.Constant, ast.Dict, ast.Tuple, ast.List), path)
            self.assertEqual(sorted(bound), sorted(set(bound)), path)
        self.assertEqual(len(ast.parse((PACKAGE / '__init__.py').read_text()).body), 1)

    def test_imports_come_from_the_file_that_defines_the_name(self):
        defined = {path.stem: {one.name if hasattr(one, 'name') else one.targets[0].id for one in tree.body
                               if isinstance(one, (ast.FunctionDef, ast.ClassDef, ast.Assign))}
                   for path, tree in trees()}
        drawn = {path.stem: [] for path in FILES}
        self.assertEqual(nodes(ast.Import), [])
        for path, node in nodes(ast.ImportFrom):
            package, dot, stem = node.module.partition('.')
            self.assertEqual((package, node.level), ('indexfile', 0), path)
            drawn[path.stem].append(stem)
            for one in node.names:
                self.assertIn(one.name, defined[stem], path)
                self.assertIsNone(one.asname, path)
        while drawn:
            free = [stem for stem, sources in drawn.items() if not set(sources) & set(drawn)]
            self.assertTrue(free, 'files draw from one another')
            drawn = {stem: sources for stem, sources in drawn.items() if stem not in free}

    def test_statements_and_expressions(self):
        for path, node in nodes(ast.FunctionDef):
            for inner in ast.walk(node):
                if isinstance(inner, ast.stmt):
                    self.assertIsInstance(inner, STATEMENTS, (path, inner.lineno))
                if isinstance(inner, ast.expr):
                    self.assertIsInstance(inner, EXPRESSIONS, (path, inner.lineno))
                if isinstance(inner, ast.Expr):
                    self.assertIsInstance(inner.value, ast.Call, (path, inner.lineno))
                if isinstance(inner, (ast.For, ast.While)):
                    self.assertEqual(inner.orelse, [], (path, inner.lineno))
                if isinstance(inner, ast.Assign):
                    self.assertEqual(len(inner.targets), 1, (path, inner.lineno))
                if isinstance(inner, ast.ListComp):
                    self.assertLessEqual((len(inner.generators), len(inner.generators[0].ifs)), (1, 1))
                if isinstance(inner, ast.BinOp):
                    self.assertNotIsInstance(inner.op, (ast.Div, ast.Pow, ast.MatMult), (path, inner.lineno))

    def test_functions_and_classes_are_plain(self):
        for path, node in nodes(ast.FunctionDef):
            given = node.args
            self.assertEqual((given.vararg, given.kwarg, given.kwonlyargs, given.posonlyargs, node.decorator_list),
                             (None, None, [], [], []), (path, node.name))
        for path, node in nodes(ast.ClassDef):
            self.assertEqual((node.decorator_list, node.keywords), ([], []), (path, node.name))
            self.assertEqual({type(one) for one in node.body}, {ast.FunctionDef}, (path, node.name))

    def test_constants(self):
        for path, node in nodes(ast.Constant):
            self.assertIsInstance(node.value, (int, str, type(None)), (path, node.lineno))

    def test_names(self):
        for path, tree in trees():
            used = [node.id for node in ast.walk(tree) if isinstance(node, ast.Name)]
            bound = [node.id for node in ast.walk(tree) if isinstance(node, ast.Name)
                     and isinstance(node.ctx, ast.Store)]
            bound += [node.arg for node in ast.walk(tree) if isinstance(node, ast.arg)]
            bound += [node.name for node in tree.body if isinstance(node, (ast.FunctionDef, ast.ClassDef))]
            for name in bound:
                self.assertNotIn(name, PYTHONS_OWN | NEVER_NAMES, path)
                self.assertRegex(name, '^[A-Za-z][A-Za-z0-9_]*$', path)
            for name in set(used) & PYTHONS_OWN:
                self.assertIn(name, BUILT_INS, path)

    def test_no_local_is_called_like_an_import_or_a_class(self):
        for path, tree in trees():
            kept = {one.name for node in tree.body if isinstance(node, ast.ImportFrom) for one in node.names}
            kept |= {node.name for node in tree.body if not isinstance(node, ast.Assign) and hasattr(node, 'name')}
            for node in ast.walk(tree):
                if isinstance(node, ast.FunctionDef):
                    local = {one.id for one in ast.walk(node) if isinstance(one, ast.Name)
                             and isinstance(one.ctx, ast.Store)} | {one.arg for one in node.args.args}
                    self.assertEqual(local & kept, set(), (path, node.name))

    def test_methods_and_values(self):
        methods = {inner.name for path, node in nodes(ast.ClassDef) for inner in node.body} - {'__init__'}
        values = {node.attr for path, node in nodes(ast.Attribute) if isinstance(node.ctx, ast.Store)}
        self.assertEqual(methods & values, set())
        self.assertEqual((methods | values) & (PYTHONS_METHODS | NEVER_NAMES), set())
        for path, node in nodes(ast.Attribute):
            self.assertIn(node.attr, METHODS | methods | values, (path, node.lineno))


if __name__ == '__main__':
    unittest.main()
