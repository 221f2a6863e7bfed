"""The package keeps to the small part of Python that it is written in."""

import ast
import builtins
import os
import re
import unittest

FOLDER = os.path.join(os.path.dirname(os.path.dirname(os.path.abspath(__file__))), "storymachine")

STATEMENTS = (
    ast.Assign, ast.AugAssign, ast.If, ast.While, ast.For, ast.Return, ast.Break, ast.Continue, ast.Pass, ast.Raise,
    ast.Try, ast.Expr, ast.FunctionDef, ast.ClassDef, ast.ImportFrom,
)
EXPRESSIONS = (
    ast.Constant, ast.List, ast.Tuple, ast.Dict, ast.BinOp, ast.UnaryOp, ast.BoolOp, ast.Compare, ast.IfExp, ast.Call,
    ast.Attribute, ast.Subscript, ast.Slice, ast.ListComp, ast.JoinedStr, ast.FormattedValue, ast.Name, ast.Lambda,
)
BUILT_IN = set("""len range enumerate zip min max sum abs sorted reversed int str bool list tuple dict set frozenset
    isinstance ord repr any all divmod Exception ValueError TypeError KeyError IndexError LookupError ZeroDivisionError
    ArithmeticError OverflowError RuntimeError NotImplementedError AttributeError StopIteration""".split())
METHODS = set("""append clear copy count endswith extend find get index insert isalnum isalpha isdigit islower isspace
    isupper items join keys ljust lower lstrip partition pop remove replace reverse rfind rjust rpartition rsplit rstrip
    setdefault split splitlines startswith strip update upper values zfill bit_length""".split())
WORDS_OUT = set("""type typing typing_extensions enum Enum IntEnum StrEnum Flag IntFlag Generic Protocol ABC ABCMeta
    namedtuple NamedTuple TypedDict TYPE_CHECKING abstractmethod""".split())
NAMES_OUT = set("""register mro elements open input version_info with_traceback add_note attrgetter breakpoint builtins
    compile copyright credits delattr dir eval exec exit gc getattr globals hasattr help id importlib license locals
    methodcaller os quit setattr super type vars sys format format_map args sort encode""".split())
VALUES_ALLOWED = set("count index title find get join lower upper split strip copy add".split())
OF_PYTHON = set(name for kind in (str, int, list, dict, set, bytes, tuple) for name in dir(kind))
ERRORS = ("Exception", "ValueError")


def sources():
    found = {}
    for name in sorted(os.listdir(FOLDER)):
        if name != "__pycache__":
            with open(os.path.join(FOLDER, name), encoding="utf-8") as file:
                found[name] = file.read()
    return found


SOURCES = sources()
TREES = {name: ast.parse(source) for name, source in SOURCES.items()}


def nodes(*kinds):
    for name, tree in TREES.items():
        for node in ast.walk(tree):
            if isinstance(node, kinds):
                yield name, node


def bound_names(tree):
    for node in ast.walk(tree):
        if isinstance(node, ast.Name) and isinstance(node.ctx, ast.Store):
            yield node.id
        elif isinstance(node, ast.arg):
            yield node.arg
        elif isinstance(node, (ast.FunctionDef, ast.ClassDef)):
            yield node.name
        elif isinstance(node, ast.ExceptHandler) and node.name:
            yield node.name


class Files(unittest.TestCase):
    def test_names(self):
        for name in SOURCES:
            self.assertRegex(name, r"^[a-z_][a-z0-9_]*\.py$")
            self.assertNotIn(name[:-3], set(dir(builtins)) | NAMES_OUT | WORDS_OUT | {"test", "tests", "testing", "site"})

    def test_signs_and_sizes(self):
        for name, source in SOURCES.items():
            self.assertRegex(source, r"\A[ -~\n]*\Z", name)
            rows = source.split("\n")
            self.assertLessEqual(len(rows), 400, name)
            for number, row in enumerate(rows, 1):
                self.assertLessEqual(len(row), 120, (name, number))
        for name, node in nodes(ast.FunctionDef):
            self.assertLessEqual(node.end_lineno - node.lineno + 1, 40, (name, node.name))

    def test_words_that_stand_nowhere(self):
        for name, source in SOURCES.items():
            self.assertFalse(set(re.findall(r"\w+", source)) & WORDS_OUT, name)
            self.assertNotRegex(source, "dataclass|overload|contextmanager")

    def test_imports(self):
        drawn = {name: set() for name in SOURCES}
        for name, node in nodes(ast.Import):
            self.fail((name, node.lineno))
        for name, node in nodes(ast.ImportFrom):
            self.assertEqual(node.level, 0)
            package, _, module = node.module.partition(".")
            self.assertEqual(package, "storymachine")
            defined = [part.name for part in TREES[module + ".py"].body if isinstance(part, (ast.FunctionDef, ast.ClassDef))]
            defined += [part.targets[0].id for part in TREES[module + ".py"].body if isinstance(part, ast.Assign)]
            for alias in node.names:
                self.assertIn(alias.name, defined, name)
                self.assertIsNone(alias.asname)
            drawn[name].add(module + ".py")
        left = dict(drawn)
        while left:
            free = [name for name, others in left.items() if not others & set(left)]
            self.assertTrue(free, left)
            for name in free:
                left.pop(name)

    def test_every_import_is_used(self):
        for name, node in nodes(ast.ImportFrom):
            for alias in node.names:
                self.assertGreater(len(re.findall(rf"\b{alias.name}\b", SOURCES[name])), 1, (name, alias.name))


class Statements(unittest.TestCase):
    def test_the_top_of_a_module(self):
        for name, tree in TREES.items():
            self.assertIsInstance(tree.body[0], ast.Expr)
            bound = []
            above = []
            for node in tree.body[1:]:
                self.assertIsInstance(node, (ast.ImportFrom, ast.FunctionDef, ast.ClassDef, ast.Assign), (name, node.lineno))
                if isinstance(node, ast.Assign):
                    bound.append(node.targets[0].id)
                    self.plain(name, node.value, above)
                elif isinstance(node, (ast.FunctionDef, ast.ClassDef)):
                    bound.append(node.name)
                    if isinstance(node, ast.FunctionDef):
                        above.append(node.name)
                else:
                    bound += [alias.name for alias in node.names]
            self.assertEqual(len(bound), len(set(bound)), name)

    def plain(self, name, value, above, inner=False):
        if isinstance(value, ast.UnaryOp):
            value = value.operand
        if isinstance(value, ast.Name):
            self.assertIn(value.id, above, name)
        elif isinstance(value, (ast.List, ast.Tuple)):
            self.assertFalse(inner and isinstance(value, ast.List), name)
            for part in value.elts:
                self.plain(name, part, above, True)
        elif isinstance(value, ast.Dict):
            self.assertFalse(inner, name)
            for part in value.keys + value.values:
                self.plain(name, part, above, True)
        else:
            self.assertIsInstance(value, ast.Constant, name)

    def test_statements_and_expressions(self):
        for name, node in nodes(ast.stmt):
            self.assertIsInstance(node, STATEMENTS, (name, node.lineno))
        for name, node in nodes(ast.expr):
            self.assertIsInstance(node, EXPRESSIONS, (name, node.lineno))

    def test_their_parts(self):
        docstrings = [tree.body[0] for tree in TREES.values()]
        for name, node in nodes(ast.Expr):
            self.assertTrue(isinstance(node.value, ast.Call) or node in docstrings, (name, node.lineno))
        for name, node in nodes(ast.For, ast.While):
            self.assertEqual(node.orelse, [], (name, node.lineno))
        for name, node in nodes(ast.Assign):
            self.assertEqual(len(node.targets), 1, (name, node.lineno))
            self.assertIsInstance(node.targets[0], (ast.Name, ast.Attribute, ast.Subscript), (name, node.lineno))
        for name, node in nodes(ast.Try):
            self.assertEqual(node.finalbody, [])
        for name, node in nodes(ast.BinOp):
            self.assertNotIsInstance(node.op, (ast.Div, ast.MatMult, ast.Pow), (name, node.lineno))
        for name, node in nodes(ast.ListComp):
            self.assertEqual(len(node.generators), 1)
            self.assertLessEqual(len(node.generators[0].ifs), 1)
        for name, node in nodes(ast.Compare):
            for operation, right in zip(node.ops, node.comparators):
                if isinstance(operation, (ast.Is, ast.IsNot)):
                    self.assertIn(right.value, (None, True, False))
        for name, node in nodes(ast.Constant):
            self.assertIsInstance(node.value, (int, str, bool, type(None)), (name, node.lineno))
            if isinstance(node.value, str):
                self.assertNotIn("%", node.value)

    def test_functions(self):
        for name, node in nodes(ast.FunctionDef, ast.Lambda):
            given = node.args
            self.assertFalse(given.vararg or given.kwarg or given.kwonlyargs or given.posonlyargs, (name, node.lineno))
            self.assertFalse([part for part in given.args if part.annotation])
        for name, node in nodes(ast.FunctionDef):
            self.assertEqual(node.decorator_list, [])
            self.assertIsNone(node.returns)

    def test_classes(self):
        for name, node in nodes(ast.ClassDef):
            self.assertLessEqual(len(node.bases), 1)
            self.assertTrue(all(base.id in ERRORS for base in node.bases))
            self.assertEqual((node.decorator_list, node.keywords), ([], []))
            for part in node.body:
                self.assertIsInstance(part, ast.FunctionDef, (name, part.lineno))

    def test_walked_at_once(self):
        walked = {"range", "enumerate", "zip", "reversed"}
        allowed = set()
        for name, node in nodes(ast.For, ast.comprehension):
            allowed.add(node.iter)
        for name, node in nodes(ast.Call):
            if isinstance(node.func, ast.Name) and node.func.id in walked:
                self.assertIn(node, allowed, (name, node.lineno))


class Names(unittest.TestCase):
    def test_bound_names(self):
        of_python = set(dir(builtins))
        for name, tree in TREES.items():
            drawn = {alias.name for node in ast.walk(tree) if isinstance(node, ast.ImportFrom) for alias in node.names}
            classes = {node.name for node in tree.body if isinstance(node, ast.ClassDef)}
            for bound in bound_names(tree):
                if bound == "__init__":
                    continue
                self.assertRegex(bound, r"^[A-Za-z][A-Za-z0-9_]*$", name)
                self.assertNotIn(bound, of_python | NAMES_OUT, name)
                self.assertNotIn(bound, drawn, name)
            for node in ast.walk(tree):
                if isinstance(node, (ast.arg, ast.Name)) and isinstance(getattr(node, "ctx", ast.Store()), ast.Store):
                    self.assertNotIn(getattr(node, "arg", getattr(node, "id", None)), classes, name)

    def test_read_names(self):
        for name, tree in TREES.items():
            known = set(bound_names(tree)) | {
                alias.name for node in ast.walk(tree) if isinstance(node, ast.ImportFrom) for alias in node.names
            }
            for node in ast.walk(tree):
                if isinstance(node, ast.Name) and isinstance(node.ctx, ast.Load):
                    self.assertIn(node.id, known | BUILT_IN, (name, node.lineno))

    def test_methods_and_values(self):
        methods = set()
        for name, node in nodes(ast.ClassDef):
            methods |= {part.name for part in node.body}
        called = {node.func for name, node in nodes(ast.Call)}
        stored = set()
        for name, node in nodes(ast.Attribute):
            if node in called:
                self.assertIn(node.attr, METHODS | methods, (name, node.lineno))
            else:
                stored.add(node.attr)
        self.assertFalse(stored & methods)
        self.assertFalse(stored & (OF_PYTHON - VALUES_ALLOWED))
        self.assertFalse((methods - {"__init__"}) & OF_PYTHON)

    def test_what_stands_at_a_files_top_is_only_read(self):
        tables = set()
        for tree in TREES.values():
            for node in tree.body:
                if isinstance(node, ast.Assign) and isinstance(node.value, (ast.List, ast.Dict)):
                    tables.add(node.targets[0].id)
        allowed = set()
        for name, node in nodes(ast.Subscript):
            if isinstance(node.ctx, ast.Load):
                allowed.add(node.value)
        for name, node in nodes(ast.Attribute):
            if node.attr == "get":
                allowed.add(node.value)
        for name, node in nodes(ast.Compare):
            allowed |= set(node.comparators)
        for name, node in nodes(ast.Name):
            if node.id in tables and isinstance(node.ctx, ast.Load):
                self.assertIn(node, allowed, (name, node.lineno))


if __name__ == "__main__":
    unittest.main()
