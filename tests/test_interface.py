"""The interface section of the document, as far as it is built."""

import ast
import importlib
import inspect
import pathlib
import unittest

from kindstocome import errors, hierarchies

PACKAGE = pathlib.Path(__file__).resolve().parent.parent / "kindstocome"

DEFINED = {
    "errors": [
        "KindError", "Against", "BadChoice", "BadEdits", "BadKinds", "BadText", "BadTree", "BadWishes", "Full",
        "Idle", "NothingToUndo", "Rejected", "TooMany", "NoKind",
    ],
    "hierarchies": ["Kinds"],
}

FUNCTIONS = {
    "lots": {
        "is_extension": ["kinds", "value"], "lot_of": ["kinds", "extension", "number"],
        "members": ["kinds", "extension"], "lots": ["kinds"], "witness": ["kinds", "lot"], "is_lot": ["kinds", "value"],
    },
    "choices": {
        "is_tree": ["kinds", "value"], "tests": ["tree"], "depth": ["tree"], "is_rows": ["kinds", "value"],
        "chosen": ["rows", "lot"], "answer": ["choice", "lot"], "answers": ["kinds", "choice"],
        "where": ["kinds", "choice", "number"],
    },
    "comparing": {
        "first_unlike": ["kinds", "one", "other"], "alike": ["kinds", "one", "other"],
        "parts_at": ["kinds", "one", "other"], "first_part": ["kinds", "one", "other"], "reached": ["kinds", "rows"],
        "reached_places": ["kinds", "tree"], "trimmed": ["kinds", "tree"], "first_clash": ["kinds", "rows"],
        "spare": ["kinds", "rows"], "fewest_rows": ["kinds", "rows"],
    },
    "nearest": {
        "is_offers": ["kinds", "value"], "nearest": ["kinds", "offers", "lot"], "first_unclear": ["kinds", "offers"],
        "first_missing": ["kinds", "offers"], "as_rows": ["kinds", "offers"],
    },
    "wishes": {
        "is_wish": ["kinds", "value"], "first_against": ["kinds", "wish"], "keeps": ["kinds", "wish"],
        "closings": ["kinds", "wish"],
    },
    "trees": {
        "smallest": ["kinds", "choice"], "fewest_tests": ["kinds", "choice"], "least_depth": ["kinds", "choice"],
        "first_tests": ["kinds", "choice"],
    },
}

METHODS = {
    "above": ["kind"], "is_under": ["one", "other"], "heirs": ["kind"], "opened": [], "closing": ["some"],
    "opening": ["some"],
}


def parameters(function):
    return list(inspect.signature(function).parameters)


class TestInterface(unittest.TestCase):
    def test_defined_in_their_files(self):
        functions = {module: list(FUNCTIONS[module]) for module in FUNCTIONS}
        for module, names in {**DEFINED, **functions}.items():
            tree = ast.parse((PACKAGE / f"{module}.py").read_text())
            found = [node.name for node in tree.body if isinstance(node, (ast.ClassDef, ast.FunctionDef))]
            for name in names:
                self.assertEqual(found.count(name), 1, name)

    def test_limits_are_assigned_in_bounds(self):
        tree = ast.parse((PACKAGE / "bounds.py").read_text())
        names = [node.targets[0].id for node in tree.body if isinstance(node, ast.Assign)]
        self.assertEqual(names, [
            "MAX_ANSWER", "MAX_EDITS", "MAX_KINDS", "MAX_NEEDS", "MAX_NEW", "MAX_ROWS", "MAX_TESTS", "MAX_WISHES"])

    def test_arguments_of_functions(self):
        for module, functions in FUNCTIONS.items():
            found = importlib.import_module(f"kindstocome.{module}")
            for name, arguments in functions.items():
                function = getattr(found, name)
                self.assertEqual((function.__module__, function.__name__), (f"kindstocome.{module}", name))
                self.assertEqual(parameters(function), arguments, name)
                for parameter in inspect.signature(function).parameters.values():
                    self.assertIs(parameter.kind, inspect.Parameter.POSITIONAL_OR_KEYWORD, name)
                    self.assertIs(parameter.default, inspect.Parameter.empty, name)

    def test_arguments_of_kinds(self):
        self.assertEqual(parameters(hierarchies.Kinds), ["elders", "closed", "hollow", "several"])
        for name, arguments in METHODS.items():
            method = vars(hierarchies.Kinds)[name]
            self.assertEqual(parameters(method)[1:], arguments, name)

    def test_kinds_defines_its_own(self):
        own = vars(hierarchies.Kinds)
        for name in ("elders", "closed", "hollow", "several"):
            self.assertIsInstance(own[name], property, name)
            self.assertIsNone(own[name].fset, name)
        for name in ("__len__", "__eq__", "__str__"):
            self.assertIn(name, own)

    def test_arguments_of_errors(self):
        arguments = {
            "Against": ["index", "lot"], "BadEdits": ["index"], "BadKinds": ["place"], "BadText": ["line", "code"],
            "BadTree": ["place"], "Rejected": ["index", "error"], "TooMany": ["limit"], "NoKind": ["kind"],
        }
        for name, wanted in arguments.items():
            self.assertEqual(parameters(getattr(errors, name).__init__)[1:], wanted, name)


if __name__ == "__main__":
    unittest.main()
