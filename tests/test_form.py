"""Point [1], no chance, files or clock; and the rules of form that a look at the source can tell."""

import ast
import builtins
import pathlib
import re
import unittest

PACKAGE = pathlib.Path(__file__).resolve().parent.parent / "keepyard"

OWN_NAMES = set("""
    len range enumerate zip min max sum abs sorted reversed int str bool list tuple dict set frozenset isinstance
    ord repr any all divmod Exception ValueError TypeError KeyError IndexError LookupError ZeroDivisionError
    ArithmeticError OverflowError RuntimeError NotImplementedError AttributeError StopIteration
""".split())

WORDS_OUT = re.compile(
    r"\b(type|typing|typing_extensions|enum|Enum|IntEnum|StrEnum|Flag|IntFlag|Generic|Protocol|ABC|ABCMeta"
    r"|namedtuple|NamedTuple|TypedDict|TYPE_CHECKING|abstractmethod)\b|dataclass|overload|contextmanager"
)

NODES_OUT = (
    ast.With, ast.Match, ast.Delete, ast.Global, ast.Nonlocal, ast.Assert, ast.Yield, ast.YieldFrom, ast.Await,
    ast.AsyncFunctionDef, ast.AsyncFor, ast.AsyncWith, ast.Import, ast.SetComp, ast.DictComp, ast.GeneratorExp,
    ast.NamedExpr, ast.Starred, ast.Div,
)

METHODS = set("""
    append clear copy count endswith extend find get index insert isalnum isalpha isdigit islower isspace isupper items
    join keys ljust lower lstrip partition pop remove replace reverse rfind rjust rpartition rsplit rstrip setdefault
    split splitlines startswith strip update upper values zfill bit_length
""".split())
PYTHONS_OWN = set().union(*[dir(kind) for kind in (str, int, list, tuple, dict, set, bytes, Exception)])


def methods_and_values(trees):
    """The names of all methods in the package, and of all values that are given to objects."""
    methods = set()
    values = set()
    for tree in trees:
        for node in ast.walk(tree):
            if isinstance(node, ast.ClassDef):
                methods.update(part.name for part in node.body if isinstance(part, ast.FunctionDef))
            elif isinstance(node, ast.Attribute) and isinstance(node.ctx, ast.Store):
                values.add(node.attr)
    return methods, values


def bound_names(tree):
    names = set()
    for node in ast.walk(tree):
        if isinstance(node, (ast.FunctionDef, ast.ClassDef)):
            names.add(node.name)
        elif isinstance(node, ast.arg):
            names.add(node.arg)
        elif isinstance(node, ast.Name) and isinstance(node.ctx, ast.Store):
            names.add(node.id)
        elif isinstance(node, ast.ImportFrom):
            names.update(alias.asname or alias.name for alias in node.names)
        elif isinstance(node, ast.ExceptHandler) and node.name:
            names.add(node.name)
    return names


class FormTest(unittest.TestCase):
    def setUp(self):
        self.sources = {path: path.read_text(encoding="utf-8") for path in sorted(PACKAGE.rglob("*.py"))}
        self.trees = {path: ast.parse(source) for path, source in self.sources.items()}

    def test_only_source_files_lie_in_the_package(self):
        self.assertIn(PACKAGE / "__init__.py", self.sources)
        for path in PACKAGE.rglob("*"):
            if "__pycache__" not in path.parts and path.is_file():
                self.assertRegex(path.name, r"^[a-z0-9_]+\.py$")

    def test_signs_and_sizes(self):
        for path, source in self.sources.items():
            self.assertRegex(source, r"\A[ -~\n]*\Z", path)
            rows = source.splitlines()
            self.assertLessEqual(len(rows), 400, path)
            self.assertLessEqual(max(len(row) for row in rows), 120, path)
            for node in ast.walk(self.trees[path]):
                if isinstance(node, ast.FunctionDef):
                    self.assertLessEqual(node.end_lineno - node.lineno + 1, 40, (path, node.name))

    def test_words_that_stand_nowhere(self):
        for path, source in self.sources.items():
            self.assertIsNone(WORDS_OUT.search(source), path)

    def test_only_the_packages_own_modules_are_imported(self):
        for path, tree in self.trees.items():
            for node in ast.walk(tree):
                if isinstance(node, ast.ImportFrom):
                    self.assertEqual(node.level, 0, path)
                    self.assertRegex(node.module, r"^(keepyard\..+|__future__)$", path)

    def test_statements_and_values(self):
        for path, tree in self.trees.items():
            for node in ast.walk(tree):
                self.assertNotIsInstance(node, NODES_OUT, path)
                if isinstance(node, ast.Constant):
                    self.assertNotIsInstance(node.value, (float, bytes, complex), path)
                if isinstance(node, (ast.FunctionDef, ast.ClassDef)):
                    self.assertEqual(node.decorator_list, [], (path, node.name))

    def test_no_two_files_draw_from_one_another(self):
        drawn = {}
        for path, tree in self.trees.items():
            names = [node.module for node in ast.walk(tree) if isinstance(node, ast.ImportFrom)]
            drawn["keepyard." + path.stem] = set(names)
        while drawn:
            ends = [name for name, names in drawn.items() if not names & set(drawn)]
            self.assertNotEqual(ends, [], drawn)
            for name in ends:
                drawn.pop(name)

    def test_methods_and_values_of_objects(self):
        methods, values = methods_and_values(self.trees.values())
        self.assertEqual(methods & values, set())
        self.assertEqual((methods | values) & PYTHONS_OWN, {"__init__"})
        for path, tree in self.trees.items():
            called = {node.func for node in ast.walk(tree) if isinstance(node, ast.Call)}
            for node in ast.walk(tree):
                if isinstance(node, ast.Attribute):
                    if node in called:
                        self.assertIn(node.attr, methods | METHODS, (path, node.lineno))
                    else:
                        self.assertIn(node.attr, values, (path, node.lineno))

    def test_locals_are_not_called_like_classes_or_imports(self):
        for path, tree in self.trees.items():
            top = {node.name for node in tree.body if isinstance(node, ast.ClassDef)}
            for node in tree.body:
                if isinstance(node, ast.ImportFrom):
                    top.update(alias.name for alias in node.names)
            for node in ast.walk(tree):
                if isinstance(node, ast.arg):
                    self.assertNotIn(node.arg, top, path)
                    self.assertNotIn(node.arg, dir(builtins), path)
                elif isinstance(node, ast.Name) and isinstance(node.ctx, ast.Store):
                    self.assertNotIn(node.id, top, path)
                    self.assertNotIn(node.id, dir(builtins), path)

    def test_names(self):
        for path, tree in self.trees.items():
            bound = bound_names(tree)
            self.assertEqual(bound & OWN_NAMES, set(), path)
            for name in bound:
                if not (name.startswith("__") and name.endswith("__")):
                    self.assertRegex(name, r"^[A-Za-z][A-Za-z0-9_]*$", path)
            read = {node.id for node in ast.walk(tree) if isinstance(node, ast.Name)}
            self.assertEqual(read - bound - OWN_NAMES, set(), path)


if __name__ == "__main__":
    unittest.main()
