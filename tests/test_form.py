"""The interface stands where the document lists it, and the package keeps to the plain form."""

import ast
import builtins
import pathlib
import re
import unittest

PACKAGE = pathlib.Path(__file__).resolve().parent.parent / "poolbook"

FUNCTIONS = {
    "houses": {"are_houses": 1, "are_likes": 2, "kinds": 2, "odd_kinds": 2},
    "ties": {"is_book": 1, "tied": 1, "reasons": 3, "way": 3, "things": 1, "odd_things": 1},
    "least": {"fewest_likes": 2, "fewest_ties": 1},
    "tables": {"are_rules": 2, "one_table": 2, "at_odds": 1},
    "whys": {"why": 4, "sure": 4},
    "asks": {"is_ask": 2, "shown": 3, "certain": 2, "possible": 2, "total": 4, "ends": 3},
    "turns": {"turned": 4},
}
# With self.
POOL_METHODS = {"__init__": 1, "__eq__": 2, "come": 3, "put": 4, "out": 3, "like": 3, "tie": 3, "cut": 3, "key": 2,
                "book": 1}
CLASSES = ["PoolError", "TooMany", "Odd", "NoThing", "NoKind", "NoName", "Taken", "NoColumns", "Full", "NoHouse",
           "NoRow", "NoColumn", "Same", "NoKey"]
BARRED_WORDS = re.compile(
    r"\b(type|typing|typing_extensions|enum|Enum|IntEnum|StrEnum|Flag|IntFlag|Generic|Protocol|ABC|ABCMeta|namedtuple|"
    r"NamedTuple|TypedDict|TYPE_CHECKING|abstractmethod)\b|dataclass|overload|contextmanager")


def files():
    return sorted(PACKAGE.glob("*.py"))


def tree(name):
    return ast.parse((PACKAGE / f"{name}.py").read_text())


class Interface(unittest.TestCase):
    def test_functions_are_defined_in_their_files(self):
        for name, functions in FUNCTIONS.items():
            found = {part.name: part for part in tree(name).body if isinstance(part, ast.FunctionDef)}
            for function, many in functions.items():
                self.assertIn(function, found)
                self.assertEqual(len(found[function].args.args), many)

    def test_classes_are_defined_in_their_file(self):
        found = [part.name for part in tree("errors").body if isinstance(part, ast.ClassDef)]
        self.assertEqual(sorted(found), sorted(CLASSES))

    def test_the_pool_has_its_methods_in_its_body(self):
        pool = [part for part in tree("pools").body if isinstance(part, ast.ClassDef) and part.name == "Pool"][0]
        found = {part.name: len(part.args.args) for part in pool.body if isinstance(part, ast.FunctionDef)}
        self.assertEqual({name: found.get(name) for name in POOL_METHODS}, POOL_METHODS)
        self.assertEqual(pool.bases, [])


def bound_names(part):
    """The names that a part of a file binds: targets, parameters, functions, classes."""
    for inner in ast.walk(part):
        if isinstance(inner, ast.Name) and isinstance(inner.ctx, ast.Store):
            yield inner.id
        if isinstance(inner, ast.arg):
            yield inner.arg
        if isinstance(inner, (ast.FunctionDef, ast.ClassDef)):
            yield inner.name


class Form(unittest.TestCase):
    def test_the_package_is_python_files_only(self):
        others = [path.name for path in PACKAGE.iterdir() if path.suffix != ".py" and path.name != "__pycache__"]
        self.assertEqual(others, [])

    def test_files_and_lines(self):
        for path in files():
            text = path.read_bytes().decode("ascii")
            self.assertFalse([sign for sign in text if sign != "\n" and not " " <= sign <= "~"], path.name)
            lines = text.split("\n")
            self.assertLess(len(lines), 400)
            self.assertLessEqual(max(len(line) for line in lines), 120)
            self.assertIsNone(BARRED_WORDS.search(text), path.name)

    def test_functions_are_short(self):
        for path in files():
            for part in ast.walk(ast.parse(path.read_text())):
                if isinstance(part, ast.FunctionDef):
                    self.assertLessEqual(part.end_lineno - part.lineno + 1, 40, part.name)

    def test_imports_are_of_the_package(self):
        for path in files():
            for part in ast.walk(ast.parse(path.read_text())):
                self.assertNotIsInstance(part, ast.Import)
                if isinstance(part, ast.ImportFrom):
                    self.assertTrue(part.module.startswith("poolbook."), path.name)
                    self.assertEqual(part.level, 0)

    def test_no_floats_and_no_barred_signs(self):
        barred = (ast.Div, ast.Global, ast.AsyncFunctionDef)
        for path in files():
            for part in ast.walk(ast.parse(path.read_text())):
                self.assertNotIsInstance(part, barred, path.name)
                if isinstance(part, ast.Constant):
                    self.assertNotIsInstance(part.value, float)
                    self.assertFalse(isinstance(part.value, str) and "%" in part.value)
                # Pool has its own ==, so that a list stands where a generator expression could.
                self.assertNotIsInstance(part, ast.GeneratorExp, path.name)

    def test_names_are_plain_and_their_own(self):
        for path in files():
            body = ast.parse(path.read_text()).body
            taken = [name.name for part in body if isinstance(part, ast.ImportFrom) for name in part.names]
            taken += [part.name for part in body if isinstance(part, ast.ClassDef)]
            at_top = taken + [part.name for part in body if isinstance(part, ast.FunctionDef)]
            at_top += [part.targets[0].id for part in body if isinstance(part, ast.Assign)]
            self.assertEqual(len(at_top), len(set(at_top)), path.name)
            for part in body:
                for name in bound_names(part):
                    self.assertNotIn(name, vars(builtins), path.name)
                    self.assertTrue(name in POOL_METHODS or not name.startswith("_"), (path.name, name))
                if isinstance(part, ast.FunctionDef):
                    self.assertFalse(set(bound_names(part)) & set(taken), (path.name, part.name))

    def test_imports_name_the_file_that_defines_the_name(self):
        for path in files():
            for part in ast.parse(path.read_text()).body:
                if isinstance(part, ast.ImportFrom):
                    body = tree(part.module.split(".")[1]).body
                    own = [name for top in body if not isinstance(top, ast.ImportFrom) for name in bound_names(top)]
                    self.assertFalse([name.name for name in part.names if name.name not in own], path.name)
