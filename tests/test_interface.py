"""The interface of DOC.md, as far as it stands, and the form of the files of the package."""

import ast
import inspect
import unittest
from importlib import import_module
from pathlib import Path

from samples import EXAMPLE, ONES

from alikeread.far import Far
from alikeread.machine import Machine
from alikeread.stair import Stair
from alikeread.within import Within

FOLDER = Path(__file__).resolve().parent.parent / "alikeread"

FUNCTIONS = {
    "alikeread.books": {"same": ["first", "second"], "same_pair": ["one", "other"]},
    "alikeread.booktext": {
        "book_text": ["book"], "book_of": ["text"], "pair_text": ["pair"], "pair_of": ["text"],
    },
    "alikeread.rests": {"after": ["pair", "rest"], "walk": ["pair", "letter"]},
    "alikeread.blocks": {
        "block": ["pair", "letter"], "blocks": ["pair"], "split": ["pair", "text"], "is_common": ["pair", "text"],
        "made": ["pair", "letters"], "texts_of": ["pair", "length"], "text_at": ["pair", "number"],
        "number_of": ["pair", "text"],
    },
    "alikeread.counts": {
        "prime_lengths": ["pair"], "counts": ["pair", "most"], "count_at": ["pair", "length"], "least": ["pair"],
        "row_at": ["pair", "number"], "number_of": ["pair", "row"], "between": ["pair", "first", "second"],
    },
    "alikeread.machine": {"pulled": ["machine", "book"], "both": ["first", "second"]},
    "alikeread.primes": {
        "primes": ["pair"], "is_alike": ["pair", "row"], "in_primes": ["pair", "row"], "row_made": ["pair", "numbers"],
    },
    "alikeread.many": {"are_alike": ["books", "row"], "primes_of_all": ["books"]},
    "alikeread.search": {
        "step": ["pair", "rest", "number"], "rest_of": ["pair", "row"], "search": ["pair", "most"],
        "fault_of": ["pair", "rests"], "alike_rows": ["pair", "length"], "prime_rows": ["pair", "length"],
    },
    "alikeread.papers": {
        "paper": ["pair"], "fault": ["pair", "value"], "pair_at": ["pair", "value", "k"],
        "alike_at": ["pair", "value", "k"], "shown": ["pair", "value"],
    },
    "alikeread.papertext": {"paper_text": ["value"], "paper_of": ["text"]},
    "alikeread.chain": {"lesser": ["pair"], "chain": ["pair"], "alike_letters": ["pair"], "suffixes": ["book"]},
}
METHODS = {
    ("alikeread.books", "Book"): {
        "__init__": ["letters", "words"], "words": [], "word": ["number"], "read": ["row"], "length": ["row"],
        "starts_apart": [], "ends_apart": [], "turned": [], "then": ["other"], "row_of": ["text"],
    },
    ("alikeread.books", "Pair"): {
        "__init__": ["first", "second"], "is_apart": [], "is_even": [], "turned": [], "swapped": [],
    },
    ("alikeread.far", "Far"): {
        "__init__": ["pair"], "length": ["k"], "text_length": ["k"], "numbers_in": ["k"], "at": ["k", "place"],
        "stretch": ["k", "place", "many"], "before": ["k", "number", "place"], "place_of": ["k", "number", "index"],
    },
    ("alikeread.machine", "Machine"): {
        "__init__": ["states", "letters", "table", "takes"], "table": [], "after": ["state", "row"],
        "takes_row": ["row"],
    },
    ("alikeread.tape", "Tape"): {
        "__init__": ["marks", "states", "rows"], "table": [], "run": ["word", "most"], "begin": ["word"],
        "next": ["configuration"],
    },
    ("alikeread.stair", "Stair"): {
        "__init__": ["machine", "word"], "row_of": ["most"], "run_of": ["row"], "steps_of": ["row"],
    },
    ("alikeread.within", "Within"): {
        "__init__": ["books", "machine"], "there_is": [], "least": [], "counts": ["most"],
        "row_at": ["length", "number"], "number_of": ["row"],
    },
}
# An object of each class, and its attributes that callers may read.
ATTRIBUTES = [
    (EXAMPLE.first, ["letters", "size"]), (EXAMPLE, ["first", "second", "letters"]), (Far(EXAMPLE), ["count"]),
    (Machine(1, 0, [], ()), ["states", "letters", "takes"]),
    (Within([EXAMPLE.first], Machine(1, 2, [0, 0], ())), ["primes", "machine"]),
    (ONES, ["marks", "states"]), (Stair(ONES, ()), ["pair"]),
]


def files():
    """Return the files of the package."""
    return sorted(path for path in FOLDER.rglob("*") if path.is_file() and "__pycache__" not in path.parts)


class TestInterface(unittest.TestCase):

    def test_functions(self):
        for module, functions in FUNCTIONS.items():
            for name, arguments in functions.items():
                found = getattr(import_module(module), name)
                self.assertEqual(found.__module__, module, name)
                self.assertEqual(list(inspect.signature(found).parameters), arguments, name)

    def test_methods_stand_in_their_own_class(self):
        for (module, title), methods in METHODS.items():
            owner = getattr(import_module(module), title)
            self.assertEqual(owner.__module__, module)
            for name, arguments in methods.items():
                found = vars(owner)[name]
                self.assertEqual(list(inspect.signature(found).parameters), ["self"] + arguments, name)

    def test_attributes_are_set_at_once(self):
        for found, names in ATTRIBUTES:
            for name in names:
                self.assertIn(name, vars(found))


class TestForm(unittest.TestCase):

    def test_only_python_files(self):
        self.assertIn(FOLDER / "__init__.py", files())
        self.assertEqual({path.suffix for path in files()}, {".py"})

    def test_lines(self):
        for path in files():
            lines = path.read_bytes().split(b"\n")
            self.assertLessEqual(len(lines), 400, path)
            for line in lines:
                self.assertLessEqual(len(line), 120, path)
                self.assertTrue(all(32 <= sign <= 126 for sign in line), path)

    def test_functions_are_small(self):
        for path in files():
            for node in ast.walk(ast.parse(path.read_text())):
                if isinstance(node, ast.FunctionDef):
                    self.assertLessEqual(node.end_lineno - node.lineno + 1, 40, node.name)

    def test_imports_are_of_the_package(self):
        for path in files():
            for node in ast.walk(ast.parse(path.read_text())):
                self.assertNotIsInstance(node, ast.Import)
                if isinstance(node, ast.ImportFrom):
                    names = [name.name for name in node.names]
                    heaps = node.module == "heapq" and set(names) <= {"heappush", "heappop"}
                    self.assertTrue(heaps or node.module.startswith("alikeread."), path)


if __name__ == "__main__":
    unittest.main()
