"""The interface as the document writes it, and those rules of the language that can be counted."""

import ast
import builtins
import importlib
import inspect
import unittest
import warnings
from pathlib import Path

ROOT = Path(__file__).resolve().parent.parent
PACKAGE = ROOT / "eachshare"
FILES = sorted(PACKAGE.rglob("*.py"))

FUNCTIONS = {
    "eachshare.base.names": {
        "is_integer": "(value)", "is_name": "(value)", "is_set": "(value)", "is_names": "(value)",
    },
    "eachshare.base.rows": {
        "own_row": "(house, row, hand)", "own_rows": "(house, row)", "past": "(house, row, hand)",
        "are_alike": "(house, one, other)", "first_alike": "(house, row)", "alike_rows": "(house, row)",
        "layers": "(house, row)", "exchanged": "(house, row, place)", "whole": "(house, rows)",
    },
    "eachshare.share.steady": {
        "is_steady": "(house, wish)", "commuting": "(wish)", "breach": "(house, wish)",
        "is_breach": "(house, wish, value)",
    },
    "eachshare.share.joins": {
        "side_ends": "(house, wish, hand, state)", "rest_ends": "(house, wish, hand, state)",
        "join": "(house, wish, hand, state, one, other)", "outlook": "(house, wish, row)",
        "next_outlook": "(house, wish, outlook, deed)", "outlooks": "(house, wish)",
    },
    "eachshare.share.made": {
        "made": "(house, wish)", "paper": "(house, wish)", "is_paper": "(house, wish, value)",
    },
    "eachshare.share.judged": {
        "parting": "(wish, share)", "parting_of": "(one, other)", "same_paper": "(wish, share)",
        "is_same_paper": "(wish, share, value)", "wish_of": "(share)",
    },
    "eachshare.share.informed": {"views": "(house, wish, share)", "is_informed": "(house, wish, share)"},
    "eachshare.know.knowing": {
        "view": "(house, wish, row, hands)", "may_be": "(house, wish, row, hands)",
        "does_know": "(house, wish, row, hands, states)", "doubt": "(house, wish, row, hands, state)",
        "is_lasting": "(wish, states)", "lasting_from": "(wish, states)", "hopeless": "(wish)", "won": "(wish)",
    },
    "eachshare.know.noticing": {
        "is_noticed": "(house, wish, states)", "knowers": "(house, wish, row, states)",
        "first_notice": "(house, wish, row, states)", "notice_paper": "(house, wish, states)",
        "is_notice_paper": "(house, wish, states, value)", "least_noticed": "(house, wish, states)",
    },
    "eachshare.know.refusing": {
        "is_refused": "(house, wish, row, deed, states)", "is_let": "(house, wish, row, states)",
        "let_rows": "(house, wish, states)", "refusal_paper": "(house, wish, states)",
        "is_refusal_paper": "(house, wish, states, value)",
    },
    "eachshare.know.cuts": {
        "cuts": "(house, row)", "row_at": "(house, row, cut)", "state_at": "(house, wish, row, cut)",
        "next_cuts": "(house, row, cut)", "perhaps": "(house, wish, row)", "surely": "(house, wish, row, states)",
        "avoiding": "(house, wish, row, states)", "count_alike": "(house, row)",
    },
    "eachshare.know.endless": {
        "for_ever": "(house, wish, stem, turn, hand)", "does_meet": "(house, wish, hand, goal)",
        "goal_paper": "(house, wish, hand, goal)", "is_goal_paper": "(house, wish, hand, goal, value)",
    },
    "eachshare.put.together": {
        "then_alike": "(house, one, other)", "own_wishes": "(house, wish)", "from_own": "(house, wishes)",
        "own_paper": "(house, wish)", "is_own_paper": "(house, wish, value)",
    },
    "eachshare.put.crews": {
        "is_crew": "(house, wish, row, states, hands)", "least_crews": "(house, wish, row, states)",
        "plan": "(house, wish, row, states, hands)", "gifted": "(house, gifts)", "is_good": "(house, wish, gifts)",
        "greatest_gifts": "(house, wish)", "against": "(house, wish, gifts)",
        "is_against": "(house, wish, gifts, value)",
    },
    "eachshare.text.formats": {
        "write_house": "(house)", "write_wish": "(wish)", "write_row": "(row)", "write_value": "(value)",
        "read_house": "(text)", "read_wish": "(text)", "read_row": "(text)", "read_value": "(text)",
    },
}
CONSTANTS = {
    "eachshare.base.names": {"MAX_LETTERS": 8},
    "eachshare.base.houses": {"MAX_HANDS": 5, "MAX_DEEDS": 8},
    "eachshare.wish.wishes": {"MAX_STATES": 24, "MAX_GIVEN": 100},
    "eachshare.share.shares": {"MAX_LOCAL": 64, "MAX_STANDINGS": 20000},
    "eachshare.share.made": {"MAX_SHARED": 8},
    "eachshare.know.noticing": {"MAX_SETS": 200},
    "eachshare.know.cuts": {"MAX_CUTS": 2000},
    "eachshare.put.crews": {"MAX_FAMILY": 200},
}
CLASSES = {
    ("eachshare.base.houses", "House"): {
        "__init__": "(self, hands, deeds)", "__getitem__": "(self, deed)", "__contains__": "(self, value)",
        "__len__": "(self)", "__eq__": "(self, other)", "__str__": "(self)",
        "deeds_of": "(self, hand)", "are_apart": "(self, one, other)", "above": "(self, hand)", "side": "(self, hand)",
        "given": "(self, deed, hand)", "as_one": "(self, one, other)", "with_deed": "(self, deed, hands)",
        "without_deed": "(self, deed)", "renamed": "(self, *, hands=None, deeds=None)",
    },
    ("eachshare.wish.wishes", "Wish"): {
        "__init__": "(self, deeds, targets, kept)", "__contains__": "(self, row)", "__getitem__": "(self, at)",
        "__len__": "(self)", "__bool__": "(self)", "__eq__": "(self, other)", "__str__": "(self)",
        "__and__": "(self, other)", "__or__": "(self, other)", "__sub__": "(self, other)", "__invert__": "(self)",
        "after": "(self, row, state=0)", "far": "(self, state)", "turned": "(self)", "renamed": "(self, names)",
        "count": "(self, size)", "rows": "(self, size)", "shortest": "(self)", "parting": "(self, other)",
    },
    ("eachshare.share.shares", "Share"): {
        "__init__": "(self, house, sizes, tables, folds, kept)", "__contains__": "(self, row)", "__len__": "(self)",
        "__eq__": "(self, other)", "__str__": "(self)", "step": "(self, standing, deed)", "after": "(self, row)",
        "told": "(self, standing)", "standings": "(self)",
    },
    ("eachshare.desk.desk", "Desk"): {
        "__init__": "(self, house)", "__getitem__": "(self, name)", "__contains__": "(self, value)", "__len__": "(self)",
        "__iter__": "(self)", "__eq__": "(self, other)", "__str__": "(self)",
        "keep": "(self, name, wish, *, guarded=())", "forget": "(self, name)", "do": "(self, deed)",
        "do_all": "(self, row)", "merge": "(self, one, other)", "give": "(self, deed, hand)", "has": "(self, name)",
        "view": "(self, name, hands)", "may_be": "(self, name, hands)", "does_know": "(self, name, hands, states)",
        "can_do": "(self, name)", "own_row": "(self, hand)", "undo": "(self, *, many=1)", "redo": "(self, *, many=1)",
        "trial": "(self)", "during": "(self, call)", "twin": "(self)", "guard": "(self, name)",
    },
    ("eachshare.text.shell", "Shell"): {
        "__init__": "(self, house_text, wish_texts)", "desk": "(self)", "answer": "(self, line)",
        "__call__": "(self, line)",
    },
}
CLASS_METHODS = {("eachshare.wish.wishes", "Wish"): {"of_rows": "(deeds, rows)"}}
PROPERTIES = {
    ("eachshare.base.houses", "House"): ("hands", "deeds", "links", "apart"),
    ("eachshare.wish.wishes", "Wish"): ("deeds", "targets", "kept"),
    ("eachshare.share.shares", "Share"): ("house", "sizes", "tables", "folds", "kept", "first"),
    ("eachshare.desk.desk", "Desk"): ("house", "row", "names"),
}
ERRORS = {
    "UnknownName": "(name)", "InvalidNumber": "(value)", "TooMany": "(limit)", "NothingToUndo": "(many)",
    "Unsteady": "(breach)", "Refused": "(name)", "Unmatched": "(pair)", "ParseError": "(index)",
}

CALLED = {
    "len", "range", "enumerate", "zip", "min", "max", "sum", "abs", "sorted", "reversed", "int", "str", "bool", "list",
    "tuple", "dict", "set", "isinstance", "ord", "repr", "any", "all", "divmod", "pow", "map", "iter", "next", "super",
    "property", "staticmethod", "classmethod", "ValueError", "TypeError", "KeyError", "IndexError", "LookupError",
    "ArithmeticError", "OverflowError", "NotImplemented",
}
LIBRARY = {"heapq", "math", "itertools", "collections"}


def parsed(path):
    return ast.parse(path.read_text(encoding="ascii"))


def top_level(path):
    """The names that a file defines, imports aside."""
    found = set()
    for part in parsed(path).body:
        if isinstance(part, (ast.FunctionDef, ast.ClassDef)):
            found.add(part.name)
        elif isinstance(part, ast.Assign):
            found |= {target.id for target in part.targets}
    return found


def file_of(module):
    return ROOT / (module.replace(".", "/") + ".py")


def class_body(module, name):
    return next(part for part in parsed(file_of(module)).body if isinstance(part, ast.ClassDef) and part.name == name)


class Interface(unittest.TestCase):
    def test_functions(self):
        for module, functions in FUNCTIONS.items():
            for name, wanted in functions.items():
                found = getattr(importlib.import_module(module), name)
                self.assertEqual(str(inspect.signature(found)), wanted, name)
                self.assertIn(name, top_level(file_of(module)))

    def test_constants(self):
        for module, constants in CONSTANTS.items():
            for name, wanted in constants.items():
                self.assertEqual(getattr(importlib.import_module(module), name), wanted)
                self.assertIn(name, top_level(file_of(module)))

    def test_methods(self):
        for (module, name), methods in CLASSES.items():
            owner = getattr(importlib.import_module(module), name)
            defined = {part.name for part in class_body(module, name).body if isinstance(part, ast.FunctionDef)}
            for method, wanted in methods.items():
                self.assertEqual(str(inspect.signature(vars(owner)[method])), wanted, method)
                self.assertIn(method, defined)

    def test_class_methods(self):
        for (module, name), methods in CLASS_METHODS.items():
            owner = getattr(importlib.import_module(module), name)
            for method, wanted in methods.items():
                self.assertIsInstance(vars(owner)[method], classmethod)
                self.assertEqual(str(inspect.signature(getattr(owner, method))), wanted)

    def test_properties(self):
        for (module, name), properties in PROPERTIES.items():
            owner = getattr(importlib.import_module(module), name)
            for one in properties:
                self.assertIsInstance(vars(owner)[one], property)

    def test_errors(self):
        module = importlib.import_module("eachshare.errors")
        for name, wanted in ERRORS.items():
            self.assertEqual(str(inspect.signature(getattr(module, name))), wanted, name)
            self.assertIn(name, top_level(file_of("eachshare.errors")))


class Form(unittest.TestCase):
    def test_only_files_of_the_package(self):
        for path in PACKAGE.rglob("*"):
            if "__pycache__" not in path.parts:
                self.assertTrue(path.is_dir() or path.suffix == ".py", path)
                self.assertEqual(path.name, path.name.lower())
        for folder in {path.parent for path in FILES}:
            self.assertTrue((folder / "__init__.py").is_file(), folder)
            self.assertFalse([path for path in folder.glob("*.py") if path.with_suffix("").is_dir()])

    def test_sizes_and_signs(self):
        for path in FILES:
            text = path.read_text(encoding="utf-8")
            lines = text.split("\n")
            self.assertLess(len(lines), 400, path)
            self.assertLessEqual(max(len(line) for line in lines), 120, path)
            self.assertTrue(all(sign == "\n" or " " <= sign <= "~" for sign in text), path)

    def test_sizes_of_functions(self):
        for path in FILES:
            for part in ast.walk(parsed(path)):
                if isinstance(part, ast.FunctionDef):
                    self.assertLessEqual(part.end_lineno - part.lineno + 1, 40, (path, part.name))

    def test_imports(self):
        for path in FILES:
            for part in ast.walk(parsed(path)):
                self.assertNotIsInstance(part, ast.Import, path)
                if isinstance(part, ast.ImportFrom) and part.module not in LIBRARY:
                    self.assertEqual((part.level, part.module.split(".")[0]), (0, "eachshare"), path)
                    for name in part.names:
                        self.assertIn(name.name, top_level(file_of(part.module)), path)

    def test_builtins(self):
        for path in FILES:
            names = {part.id for part in ast.walk(parsed(path)) if isinstance(part, ast.Name)}
            self.assertEqual({name for name in names if hasattr(builtins, name)} - CALLED, set(), path)

    def test_no_builtin_has_another_meaning(self):
        for path in FILES:
            for part in ast.walk(parsed(path)):
                if isinstance(part, ast.Name) and isinstance(part.ctx, ast.Store):
                    self.assertFalse(hasattr(builtins, part.id), (path, part.id))
                if isinstance(part, ast.arg):
                    self.assertFalse(hasattr(builtins, part.arg), (path, part.arg))

    def test_an_index_comes_with_an_iter(self):
        for path in FILES:
            for part in ast.walk(parsed(path)):
                if isinstance(part, ast.ClassDef):
                    names = [row.name for row in part.body if isinstance(row, ast.FunctionDef)]
                    self.assertTrue("__iter__" in names or "__getitem__" not in names, part.name)

    def test_no_warnings(self):
        for path in FILES:
            with warnings.catch_warnings():
                warnings.simplefilter("error")
                compile(path.read_text(encoding="ascii"), str(path), "exec")
