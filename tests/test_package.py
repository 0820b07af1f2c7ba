"""Tests of the interface as a whole: which file defines what, and who imports whom."""

import ast
import doctest
import importlib
import inspect
import pathlib
import unittest

PACKAGE = pathlib.Path(__file__).resolve().parent.parent / "neverwas"
# In the order of the stages: a file imports only from the files above it.
FUNCTIONS = {
    "errors": {},
    "logs": {
        "is_entry": "(value)",
        "is_log": "(value)",
        "entry_of": "(log, entry_id)",
        "position_of": "(log, entry_id)",
        "writers_of": "(log, cell)",
        "readers_of": "(log, cell)",
    },
    "dependencies": {
        "dependencies": "(log, target, *, retracted=())",
        "dependency_set": "(log, target, *, retracted=())",
        "source_of": "(log, reader, cell, *, retracted=())",
    },
    "paths": {
        "blockers": "(log, writer, reader, cell)",
        "cheapest_path": "(log, entry_id)",
        "retractions_for": "(log, entry_id, path)",
        "all_costs": "(log)",
    },
    "compaction": {
        "compacted": "(log, *, budget=10)",
        "is_compact": "(log, *, budget=10)",
        "explanation": "(log, entry_id, *, budget=10)",
        "is_explanation": "(log, entry_id, value, *, budget=10)",
    },
    "edits": {
        "joined": "(one, other)",
        "with_sealed": "(log, entry_id)",
        "without_query": "(log, entry_id)",
        "with_committed": "(log, entry_id, *, budget=10)",
        "split_at": "(log, position)",
    },
    "store": {
        "store_of": "(log, *, budget=10)",
    },
    "histories": {
        "open_gaps": "(log, target, *, budget=10, retracted=())",
        "certainty": "(log, target, *, budget=10, retracted=())",
        "is_history": "(log, value, *, budget=10, retracted=())",
        "differs": "(log, target, value, *, budget=10, retracted=())",
    },
    "verdicts": {
        "verdicts": "(log, target, *, budget=10, retracted=())",
        "witnesses": "(log, target, entry_id, *, budget=10, retracted=())",
        "closed_path": "(log, target, entry_id, *, budget=10, retracted=())",
        "reachable_positions": "(log, target, *, budget=10, retracted=())",
    },
    "values": {
        "evaluate": "(log, rules, target, *, retracted=())",
        "distinguishing_rules": "(log, entry_id, *, budget=10)",
    },
    "audit": {
        "recorded": "(commands, targets, *, budget=10)",
        "first_invalid": "(record, *, budget=10)",
        "replayed": "(record, *, budget=10)",
    },
    "texts": {
        "format_log": "(log, *, budget=10)",
        "parse_log": "(text)",
    },
    "console": {},
}
ERRORS = [
    "LogError", "InvalidLog", "UnknownId", "UnknownCell", "SealedWrite", "DuplicateId", "InvalidBudget",
    "NotCompact", "InvalidRules", "InvalidCommand", "InvalidRecord", "ParseError",
]
# By the file and the class: the methods that the document lists.
METHODS = {
    ("store", "Store"): {
        "__init__": "(self, budget=10)",
        "add": "(self, entry)",
        "retract": "(self, entry_id)",
        "restore": "(self, entry_id)",
        "seal": "(self, entry_id)",
        "drop": "(self, entry_id)",
        "commit": "(self, entry_id)",
        "lower_budget": "(self, budget)",
        "apply_all": "(self, commands)",
        "log": "(self)",
        "budget": "(self)",
        "retracted": "(self)",
        "retracted_price": "(self)",
        "dependencies": "(self, target)",
        "notes": "(self)",
        "duplicate": "(self)",
    },
    ("console", "Console"): {
        "__init__": "(self)",
        "run": "(self, line)",
    },
}


def tree_of(name):
    return ast.parse((PACKAGE / f"{name}.py").read_text(encoding="ascii"))


class Interface(unittest.TestCase):
    def test_each_function_is_defined_in_its_file(self):
        for name, functions in FUNCTIONS.items():
            module = importlib.import_module(f"neverwas.{name}")
            defined = [node.name for node in tree_of(name).body if isinstance(node, ast.FunctionDef)]
            for function, signature in functions.items():
                self.assertIn(function, defined)
                self.assertEqual(signature, str(inspect.signature(getattr(module, function))), function)

    def test_each_error_is_defined_in_errors(self):
        defined = [node.name for node in tree_of("errors").body if isinstance(node, ast.ClassDef)]
        self.assertEqual(ERRORS, defined)

    def test_each_method_is_defined_in_its_class(self):
        for (name, class_name), methods in METHODS.items():
            made = getattr(importlib.import_module(f"neverwas.{name}"), class_name)
            node, = [node for node in tree_of(name).body if isinstance(node, ast.ClassDef) and node.name == class_name]
            defined = [method.name for method in node.body if isinstance(method, ast.FunctionDef)]
            for method, signature in methods.items():
                self.assertIn(method, defined)
                self.assertEqual(signature, str(inspect.signature(getattr(made, method))), method)

    def test_the_default_budget_is_a_name_of_compaction(self):
        defined = [node.targets[0].id for node in tree_of("compaction").body if isinstance(node, ast.Assign)]
        self.assertIn("DEFAULT_BUDGET", defined)

    def test_the_package_file_defines_no_names(self):
        for node in tree_of("__init__").body:
            self.assertIsInstance(node, ast.Expr)
            self.assertIsInstance(node.value, ast.Constant)

    def test_each_stage_imports_only_from_earlier_ones(self):
        order = list(FUNCTIONS)
        for position, name in enumerate(order):
            for node in ast.walk(tree_of(name)):
                self.assertNotIsInstance(node, ast.Import)
                if isinstance(node, ast.ImportFrom):
                    self.assertEqual(0, node.level)
                    self.assertIn(node.module, [f"neverwas.{earlier}" for earlier in order[:position]])


class Readme(unittest.TestCase):
    def test_its_examples(self):
        result = doctest.testfile(str(PACKAGE.parent / "README.md"), module_relative=False, encoding="ascii")
        self.assertGreater(result.attempted, 10)
        self.assertEqual(0, result.failed)


class Files(unittest.TestCase):
    def test_the_folder_holds_nothing_else(self):
        found = sorted(path.name for path in PACKAGE.iterdir() if path.name != "__pycache__")
        self.assertEqual(sorted(f"{name}.py" for name in ["__init__", *FUNCTIONS]), found)

    def test_sizes_and_characters(self):
        for name in ["__init__", *FUNCTIONS]:
            lines = (PACKAGE / f"{name}.py").read_bytes().split(b"\n")
            self.assertLess(len(lines), 400, name)
            for line in lines:
                self.assertLessEqual(len(line), 120, line)
                self.assertTrue(all(32 <= sign <= 126 for sign in line), line)
            for node in ast.walk(tree_of(name)):
                if isinstance(node, ast.FunctionDef):
                    self.assertLessEqual(node.end_lineno - node.lineno + 1, 40, node.name)


if __name__ == "__main__":
    unittest.main()
