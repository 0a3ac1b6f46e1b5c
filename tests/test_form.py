"""The interface stands where the document lists it, and the package keeps to the plain form."""

import ast
import pathlib
import re
import unittest

PACKAGE = pathlib.Path(__file__).resolve().parent.parent / "poolbook"

FUNCTIONS = {
    "houses": {"are_houses": 1, "are_likes": 2, "kinds": 2, "odd_kinds": 2},
    "ties": {"is_book": 1, "tied": 1, "reasons": 3, "way": 3, "things": 1, "odd_things": 1},
    "least": {"fewest_likes": 2, "fewest_ties": 1},
    "tables": {"are_rules": 2, "one_table": 2, "at_odds": 1},
    "whys": {"why": 4, "sure": 4},
}
CLASSES = ["PoolError", "TooMany", "Odd", "NoThing", "NoKind", "NoName", "Taken", "NoColumns", "Full", "NoHouse",
           "NoRow", "NoColumn", "Same", "NoKey"]
BARRED_WORDS = re.compile(
    r"\b(type|typing|typing_extensions|enum|Enum|IntEnum|StrEnum|Flag|IntFlag|Generic|Protocol|ABC|ABCMeta|namedtuple|"
    r"NamedTuple|TypedDict|TYPE_CHECKING|abstractmethod)\b|dataclass|overload|contextmanager")


def files():
    return sorted(PACKAGE.glob("*.py"))


def tree(name):
    return ast.parse((PACKAGE / f"{name}.py").read_text())


class Interface(unittest.TestCase):
    def test_functions_are_defined_in_their_files(self):
        for name, functions in FUNCTIONS.items():
            found = {part.name: part for part in tree(name).body if isinstance(part, ast.FunctionDef)}
            for function, many in functions.items():
                self.assertIn(function, found)
                self.assertEqual(len(found[function].args.args), many)

    def test_classes_are_defined_in_their_file(self):
        found = [part.name for part in tree("errors").body if isinstance(part, ast.ClassDef)]
        self.assertEqual(sorted(found), sorted(CLASSES))


class Form(unittest.TestCase):
    def test_the_package_is_python_files_only(self):
        others = [path.name for path in PACKAGE.iterdir() if path.suffix != ".py" and path.name != "__pycache__"]
        self.assertEqual(others, [])

    def test_files_and_lines(self):
        for path in files():
            text = path.read_bytes().decode("ascii")
            self.assertFalse([sign for sign in text if sign != "\n" and not " " <= sign <= "~"], path.name)
            lines = text.split("\n")
            self.assertLess(len(lines), 400)
            self.assertLessEqual(max(len(line) for line in lines), 120)
            self.assertIsNone(BARRED_WORDS.search(text), path.name)

    def test_functions_are_short(self):
        for path in files():
            for part in ast.walk(ast.parse(path.read_text())):
                if isinstance(part, ast.FunctionDef):
                    self.assertLessEqual(part.end_lineno - part.lineno + 1, 40, part.name)

    def test_imports_are_of_the_package(self):
        for path in files():
            for part in ast.walk(ast.parse(path.read_text())):
                self.assertNotIsInstance(part, ast.Import)
                if isinstance(part, ast.ImportFrom):
                    self.assertTrue(part.module.startswith("poolbook."), path.name)
                    self.assertEqual(part.level, 0)

    def test_no_floats_and_no_barred_signs(self):
        barred = (ast.Div, ast.Global, ast.AsyncFunctionDef)
        for path in files():
            for part in ast.walk(ast.parse(path.read_text())):
                self.assertNotIsInstance(part, barred, path.name)
                if isinstance(part, ast.Constant):
                    self.assertNotIsInstance(part.value, float)
                    self.assertFalse(isinstance(part.value, str) and "%" in part.value)
