"""The package's own files keep to the small part of Python that the program is written in."""

import ast
import builtins
import pathlib
import re
import unittest

PACKAGE = pathlib.Path(__file__).resolve().parent.parent / "breakersyard"

FORBIDDEN_NODES = (
    ast.With, ast.Match, ast.Delete, ast.Global, ast.Nonlocal, ast.Assert, ast.Yield, ast.YieldFrom, ast.Await,
    ast.AsyncFunctionDef, ast.AsyncFor, ast.AsyncWith, ast.SetComp, ast.DictComp, ast.GeneratorExp, ast.NamedExpr,
    ast.Starred, ast.Div, ast.MatMult, ast.Import, ast.AnnAssign, ast.Set)
FORBIDDEN_WORDS = (
    "type", "typing", "typing_extensions", "enum", "Enum", "IntEnum", "StrEnum", "Flag", "IntFlag", "Generic",
    "Protocol", "ABC", "ABCMeta", "namedtuple", "NamedTuple", "TypedDict", "TYPE_CHECKING", "abstractmethod")
FORBIDDEN_STRETCHES = ("dataclass", "overload", "contextmanager")
FORBIDDEN_NAMES = (
    "register", "mro", "elements", "open", "input", "version_info", "with_traceback", "add_note", "format",
    "format_map")
PYTHONS_OWN = (
    "len", "range", "enumerate", "zip", "min", "max", "sum", "abs", "sorted", "reversed", "int", "str", "bool", "list",
    "tuple", "dict", "set", "frozenset", "isinstance", "ord", "repr", "any", "all", "divmod", "ValueError", "KeyError")
METHODS = (
    "append", "clear", "copy", "count", "endswith", "extend", "find", "get", "index", "insert", "items", "join",
    "keys", "pop", "remove", "replace", "reverse", "setdefault", "split", "strip", "update", "values", "bit_length")
TOP_NODES = (ast.ImportFrom, ast.FunctionDef, ast.ClassDef, ast.Assign, ast.Expr)


def named(node):
    """The names that a node binds or reads."""
    if isinstance(node, ast.Name):
        return [node.id]
    if isinstance(node, ast.Attribute):
        return [node.attr]
    if isinstance(node, ast.arg):
        return [node.arg]
    if isinstance(node, (ast.FunctionDef, ast.ClassDef)):
        return [node.name]
    return []


def bound_in(function):
    """The parameters and locals of a function."""
    names = [node.arg for node in ast.walk(function) if isinstance(node, ast.arg)]
    return names + [node.id for node in ast.walk(function)
                    if isinstance(node, ast.Name) and isinstance(node.ctx, ast.Store)]


class Language(unittest.TestCase):
    def each_file(self):
        for path in sorted(PACKAGE.glob("*.py")):
            text = path.read_text(encoding="utf-8")
            with self.subTest(file=path.name):
                yield path, text, ast.parse(text)

    def test_nothing_else_lies_in_the_package(self):
        for path in PACKAGE.iterdir():
            if path.name != "__pycache__":
                self.assertRegex(path.name, r"\A[a-z0-9_]+\.py\Z")

    def test_signs_and_sizes(self):
        for path, text, tree in self.each_file():
            self.assertRegex(text, r"\A[ -~\n]*\Z")
            self.assertLessEqual(len(text.splitlines()), 400)
            self.assertLessEqual(max(len(line) for line in text.splitlines()), 120)
            for node in ast.walk(tree):
                if isinstance(node, ast.FunctionDef):
                    self.assertLessEqual(node.end_lineno - node.lineno + 1, 40, node.name)

    def test_words(self):
        for path, text, tree in self.each_file():
            words = re.findall(r"\w+", text)
            self.assertEqual([word for word in words if word in FORBIDDEN_WORDS], [])
            self.assertEqual([part for part in FORBIDDEN_STRETCHES if part in text], [])

    def test_forms(self):
        for path, text, tree in self.each_file():
            for node in ast.walk(tree):
                self.assertNotIsInstance(node, FORBIDDEN_NODES)
                if isinstance(node, ast.Constant):
                    self.assertIn(type(node.value), (int, str, bool, type(None)))
                if isinstance(node, ast.Assign):
                    self.assertEqual(len(node.targets), 1)
                if isinstance(node, (ast.For, ast.While)):
                    self.assertEqual(node.orelse, [])
                if isinstance(node, ast.ListComp):
                    self.assertEqual(len(node.generators), 1)
                    self.assertLessEqual(len(node.generators[0].ifs), 1)
                if isinstance(node, (ast.FunctionDef, ast.ClassDef)):
                    self.assertEqual(node.decorator_list, [])

    def test_top_of_modules(self):
        for path, text, tree in self.each_file():
            bound = []
            for node in tree.body:
                self.assertIsInstance(node, TOP_NODES)
                if isinstance(node, ast.ImportFrom):
                    self.assertTrue(node.level == 0 and node.module.startswith("breakersyard."))
                    bound += [one.name for one in node.names]
                if isinstance(node, ast.Assign):
                    ast.literal_eval(node.value)
                    bound.append(node.targets[0].id)
                if isinstance(node, (ast.FunctionDef, ast.ClassDef)):
                    bound.append(node.name)
            self.assertEqual(len(bound), len(set(bound)))

    def drawn_from(self):
        """Of each file the files that it draws from, and what from each."""
        drawn = {}
        for path, text, tree in self.each_file():
            rows = [node for node in tree.body if isinstance(node, ast.ImportFrom)]
            drawn[path.stem] = [(node.module.split(".")[1], one.name) for node in rows for one in node.names]
            read = [node.id for node in ast.walk(tree) if isinstance(node, ast.Name)]
            self.assertEqual([name for module, name in drawn[path.stem] if name not in read], [])
        return drawn

    def test_imports_are_from_the_file_that_defines_the_name(self):
        defined = {}
        for path, text, tree in self.each_file():
            rows = [node for node in tree.body if isinstance(node, (ast.Assign, ast.FunctionDef, ast.ClassDef))]
            defined[path.stem] = [row.targets[0].id if isinstance(row, ast.Assign) else row.name for row in rows]
        for rows in self.drawn_from().values():
            for module, name in rows:
                self.assertIn(name, defined[module])

    def test_no_two_files_draw_from_one_another(self):
        drawn = {file: {module for module, name in rows} for file, rows in self.drawn_from().items()}
        done = set()
        while len(done) < len(drawn):
            ready = {file for file in drawn if file not in done and drawn[file] <= done}
            self.assertNotEqual(ready, set())
            done |= ready

    def test_no_value_of_an_object_is_called_like_one_of_pythons_own(self):
        free = ("count", "index", "title", "find", "get", "join", "lower", "upper", "split", "strip", "copy", "add")
        own = {name for kind in (str, int, list, dict, set, bytes) for name in dir(kind)} - set(free)
        for path, text, tree in self.each_file():
            for node in ast.walk(tree):
                if isinstance(node, ast.Attribute) and isinstance(node.ctx, ast.Store):
                    self.assertNotIn(node.attr, own)

    def test_names(self):
        for path, text, tree in self.each_file():
            imported = [one.name for node in tree.body if isinstance(node, ast.ImportFrom) for one in node.names]
            imported += [node.name for node in tree.body if isinstance(node, ast.ClassDef)]
            for node in ast.walk(tree):
                for name in named(node):
                    self.assertNotIn(name, FORBIDDEN_NAMES)
                    self.assertTrue(name == "__init__" or not name.startswith("_"), name)
                if isinstance(node, ast.Name) and isinstance(node.ctx, ast.Load) and hasattr(builtins, node.id):
                    self.assertIn(node.id, PYTHONS_OWN)
                if isinstance(node, ast.FunctionDef):
                    for name in bound_in(node):
                        self.assertFalse(hasattr(builtins, name), name)
                        self.assertNotIn(name, imported)

    def test_methods(self):
        own = [node.name for path, text, tree in self.each_file() for node in ast.walk(tree)
               if isinstance(node, ast.FunctionDef)]
        for path, text, tree in self.each_file():
            for node in ast.walk(tree):
                if isinstance(node, ast.Call) and isinstance(node.func, ast.Attribute):
                    self.assertIn(node.func.attr, METHODS + tuple(own))
