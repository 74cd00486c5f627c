"""The form of the package: its files, their sizes and characters, and the names of the interface."""

import ast
import pathlib
import re
import unittest
import warnings

PACKAGE = pathlib.Path(__file__).resolve().parent.parent / "missesnone"

INTERFACE = {
    "errors": [
        "MissError", "TextError", "Malformed", "Misplaced", "Unfit", "TooMany", "Unknown", "Repeated", "OtherFace",
        "TooLarge", "TooLong", "WriteSame", "BadEdit", "BadTest", "TooManyEdits", "WorkshopFull", "SuiteMisses",
        "UnknownEdit", "UnknownTest", "BrokenChain", "JournalError", "Changed", "Impossible",
    ],
    "programs": [
        "Program", "cells", "row_at", "idle_row", "with_rows", "face", "position_of", "step", "run",
    ],
    "texts": ["parse_program", "format_program", "format_row"],
    "orders": ["ranks", "ranked", "alike", "all_inputs"],
    "pairs": ["pair_of", "moves_at", "continued", "pair_after"],
    "comparing": ["first_difference", "pairing", "is_pairing"],
    "faults": ["slips", "faults", "faulty"],
    "suites": ["catches", "verdicts", "suite", "missed"],
    "papers": ["paper", "accepts"],
    "fewest": ["fewest", "best"],
    "cover": ["cover", "untouched", "goes_on"],
    "workshops": ["Workshop", "blame", "clashes"],
    "shrinking": ["shrunk", "endings"],
    "claims": ["claim", "first_wrong"],
    "chains": ["run_chain"],
    "journals": ["journal", "replay"],
}

ARGUMENTS = {
    "programs": {
        "cells": "program", "row_at": "program, cell", "idle_row": "program, cell", "with_rows": "program, rows",
        "face": "program", "position_of": "number, held", "step": "program, place, event", "run": "program, events",
    },
    "texts": {"parse_program": "text", "format_program": "program", "format_row": "program, cell, row"},
    "orders": {"ranks": "numbers", "ranked": "events", "alike": "first, second", "all_inputs": "names, length"},
    "pairs": {
        "pair_of": "first, second, events", "moves_at": "names, pair", "continued": "first, second, events, move",
        "pair_after": "first, second, pair, move",
    },
    "comparing": {
        "first_difference": "first, second", "pairing": "first, second", "is_pairing": "first, second, pairs",
    },
    "faults": {"slips": "program, kinds", "faults": "program, kinds, two=False", "faulty": "program, fault"},
    "suites": {
        "catches": "program, fault, events", "verdicts": "program, faults", "suite": "program, faults",
        "missed": "program, faults, tests",
    },
    "papers": {"paper": "program, faults, tests", "accepts": "program, faults, tests, value"},
    "fewest": {"fewest": "program, faults, length", "best": "program, faults, length, budget"},
    "cover": {"cover": "program", "untouched": "program, tests", "goes_on": "program, other, events"},
    "workshops": {"blame": "workshop, number", "clashes": "workshop, first, second"},
    "shrinking": {"shrunk": "first, second, events", "endings": "program, first, second"},
    "claims": {"claim": "program, events", "first_wrong": "program, events, value"},
    "chains": {"run_chain": "programs, ports, events"},
    "journals": {"journal": "workshop", "replay": "base, text"},
}

# The methods and properties of each class, with their arguments.
METHODS = {
    ("programs", "Program"): {"__init__": "self, names, ports, modes, rows", "__eq__": "self, other"},
    ("workshops", "Workshop"): {
        "__init__": "self, base", "edit": "self, hand, cell, row", "test": "self, events, outputs",
        "undo": "self, number", "redo": "self, number", "program": "self", "program_with": "self, numbers",
        "verdicts": "self", "stale": "self", "edits": "self", "tests": "self", "events": "self", "base": "self",
        "runs": "self", "in_force": "self", "size": "self",
    },
}

# The only names that are imported from outside of the package.
OUTSIDE = {"itertools": {"combinations"}}

BARRED = {
    "type", "typing", "typing_extensions", "enum", "Enum", "IntEnum", "StrEnum", "Flag", "IntFlag", "Generic",
    "Protocol", "ABC", "ABCMeta", "namedtuple", "NamedTuple", "TypedDict", "TYPE_CHECKING", "abstractmethod",
    "register", "mro", "elements", "open", "input", "law", "eval", "exec", "globals", "locals", "vars", "dir", "id",
    "hash", "iter", "next", "print", "super", "frozenset", "chr", "float", "map", "filter", "round", "object",
}


def sources():
    return {path.stem: path.read_text(encoding="utf-8") for path in sorted(PACKAGE.glob("*.py"))}


def defined(source):
    return [part.name for part in ast.parse(source).body if isinstance(part, (ast.FunctionDef, ast.ClassDef))]


def constants(source):
    return [part.targets[0].id for part in ast.parse(source).body if isinstance(part, ast.Assign)]


class Form(unittest.TestCase):
    def test_the_folder_contains_python_files_only(self):
        names = [path.name for path in PACKAGE.iterdir() if path.name != "__pycache__"]
        self.assertIn("__init__.py", names)
        for name in names:
            self.assertTrue(re.fullmatch("[a-z0-9_]+[.]py", name), name)

    def test_characters_and_sizes(self):
        for name, source in sources().items():
            with self.subTest(name):
                self.assertTrue(all(sign == "\n" or " " <= sign <= "~" for sign in source))
                self.assertLessEqual(len(source.split("\n")), 399)
                self.assertLessEqual(max(len(line) for line in source.split("\n")), 120)
                for node in ast.walk(ast.parse(source)):
                    if isinstance(node, ast.FunctionDef):
                        self.assertLessEqual(node.end_lineno - node.lineno + 1, 40, node.name)

    def test_no_warnings(self):
        with warnings.catch_warnings():
            warnings.simplefilter("error")
            for name, source in sources().items():
                compile(source, name, "exec")

    def test_imports(self):
        files = sources()
        for name, source in files.items():
            for node in ast.walk(ast.parse(source)):
                self.assertNotIsInstance(node, ast.Import)
                if isinstance(node, ast.ImportFrom) and node.module in OUTSIDE:
                    self.assertLessEqual({each.name for each in node.names}, OUTSIDE[node.module])
                elif isinstance(node, ast.ImportFrom):
                    package, _, module = node.module.partition(".")
                    self.assertEqual((package, node.level), ("missesnone", 0))
                    for each in node.names:
                        self.assertIn(each.name, defined(files[module]) + constants(files[module]), name)

    def test_no_two_files_import_from_each_other(self):
        files = sources()
        above = {
            name: {
                node.module.partition(".")[2] for node in ast.walk(ast.parse(source))
                if isinstance(node, ast.ImportFrom) and node.module not in OUTSIDE
            }
            for name, source in files.items()
        }
        while above:
            free = [name for name in above if not above[name] & set(above)]
            self.assertNotEqual(free, [], above)
            above = {name: above[name] for name in above if name not in free}

    def test_names(self):
        for name, source in sources().items():
            for node in ast.walk(ast.parse(source)):
                for field in ("id", "name", "arg", "attr"):
                    self.assertNotIn(getattr(node, field, None), BARRED, name)

    def test_the_interface_is_defined_where_it_is_listed(self):
        files = sources()
        for name, listed in INTERFACE.items():
            with self.subTest(name):
                self.assertEqual([each for each in listed if each not in defined(files[name])], [])

    def test_arguments(self):
        files = sources()
        for name, listed in ARGUMENTS.items():
            parts = {part.name: part for part in ast.parse(files[name]).body if isinstance(part, ast.FunctionDef)}
            for function, expected in listed.items():
                with self.subTest(function):
                    self.assertEqual(ast.unparse(parts[function].args), expected)

    def test_methods_are_defined_in_their_classes(self):
        files = sources()
        for (name, listed), methods in METHODS.items():
            for part in ast.parse(files[name]).body:
                if isinstance(part, ast.ClassDef) and part.name == listed:
                    found = {each.name: each for each in part.body if isinstance(each, ast.FunctionDef)}
                    self.assertEqual({each: ast.unparse(found[each].args) for each in methods}, methods)
                    break
            else:
                self.fail(listed)


if __name__ == "__main__":
    unittest.main()
