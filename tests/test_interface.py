"""The interface section of the document: names, arguments and files, and calls by name."""

import ast
import importlib
import inspect
import pathlib
import unittest

from kindstocome import desks, errors, hierarchies, shelves
from samples import ROWS, TREE, example, outcome

PACKAGE = pathlib.Path(__file__).resolve().parent.parent / "kindstocome"

DEFINED = {
    "errors": [
        "KindError", "Against", "BadChoice", "BadEdits", "BadKinds", "BadText", "BadTree", "BadWishes", "Full",
        "Idle", "NothingToUndo", "Rejected", "TooMany", "NoKind",
    ],
    "hierarchies": ["Kinds"],
    "shelves": ["Shelf", "WishShelf", "LoggedShelf"],
    "desks": ["Desk"],
}

FUNCTIONS = {
    "lots": {
        "is_extension": ["kinds", "value"], "lot_of": ["kinds", "extension", "number"],
        "members": ["kinds", "extension"], "lots": ["kinds"], "witness": ["kinds", "lot"], "is_lot": ["kinds", "value"],
    },
    "choices": {
        "is_tree": ["kinds", "value"], "tests": ["tree"], "depth": ["tree"], "is_rows": ["kinds", "value"],
        "chosen": ["rows", "lot"], "answer": ["choice", "lot"], "answers": ["kinds", "choice"],
        "where": ["kinds", "choice", "number"],
    },
    "comparing": {
        "first_unlike": ["kinds", "one", "other"], "alike": ["kinds", "one", "other"],
        "parts_at": ["kinds", "one", "other"], "first_part": ["kinds", "one", "other"], "reached": ["kinds", "rows"],
        "reached_places": ["kinds", "tree"], "trimmed": ["kinds", "tree"], "first_clash": ["kinds", "rows"],
        "spare": ["kinds", "rows"], "fewest_rows": ["kinds", "rows"],
    },
    "nearest": {
        "is_offers": ["kinds", "value"], "nearest": ["kinds", "offers", "lot"], "first_unclear": ["kinds", "offers"],
        "first_missing": ["kinds", "offers"], "as_rows": ["kinds", "offers"],
    },
    "wishes": {
        "is_wish": ["kinds", "value"], "first_against": ["kinds", "wish"], "keeps": ["kinds", "wish"],
        "closings": ["kinds", "wish"],
    },
    "trees": {
        "smallest": ["kinds", "choice"], "fewest_tests": ["kinds", "choice"], "least_depth": ["kinds", "choice"],
        "first_tests": ["kinds", "choice"],
    },
    "releases": {
        "is_later": ["kinds", "later"], "known_lots": ["kinds", "later"], "first_new": ["kinds", "later"],
        "is_release": ["kinds", "later"], "breaks": ["kinds", "later", "wish"],
    },
    "texts": {
        "kinds_text": ["kinds"], "read_kinds": ["value"], "tree_text": ["tree"], "read_tree": ["value"],
    },
}

CLASSES = {
    hierarchies.Kinds: ["elders", "closed", "hollow", "several"],
    shelves.Shelf: ["kinds", "choice"],
    shelves.WishShelf: ["kinds", "choice", "wishes"],
    shelves.LoggedShelf: ["kinds", "choice"],
    desks.Desk: ["shelf"],
}

PROPERTIES = {
    hierarchies.Kinds: ["elders", "closed", "hollow", "several"],
    shelves.Shelf: ["kinds", "choice", "version", "news"],
    shelves.WishShelf: ["wishes"],
    shelves.LoggedShelf: ["log"],
    desks.Desk: ["history"],
}

METHODS = {
    hierarchies.Kinds: {
        "above": ["kind"], "is_under": ["one", "other"], "heirs": ["kind"], "opened": [], "closing": ["some"],
        "opening": ["some"], "__len__": [], "__eq__": ["other"], "__str__": [],
    },
    shelves.Shelf: {
        "add": ["elders", "closed", "hollow"], "close": ["kind"], "reopen": ["kind"], "choose": ["value"], "undo": [],
        "run": ["edits"], "twin": [], "__call__": ["lot"], "__eq__": ["other"], "__str__": [],
    },
    shelves.WishShelf: {},
    shelves.LoggedShelf: {},
    desks.Desk: {"say": ["line"]},
}

# A right value for each argument of each function.
VALUES = {
    "kinds": example(), "later": example().closing((0,)), "value": (0, 1, 2), "extension": ((1, 2),), "number": 5,
    "lot": (0, 1, 2), "tree": TREE, "rows": ROWS, "choice": TREE, "one": TREE, "other": ROWS, "offers": ((1, 5), (2,
    6)),
    "wish": ("never", TREE, 7),
}


def parameters(function):
    return list(inspect.signature(function).parameters)


class TestInterface(unittest.TestCase):
    def test_defined_in_their_files(self):
        functions = {module: list(FUNCTIONS[module]) for module in FUNCTIONS}
        for module, names in {**DEFINED, **functions}.items():
            tree = ast.parse((PACKAGE / f"{module}.py").read_text())
            found = [node.name for node in tree.body if isinstance(node, (ast.ClassDef, ast.FunctionDef))]
            for name in names:
                self.assertEqual(found.count(name), 1, name)

    def test_limits_are_assigned_in_bounds(self):
        tree = ast.parse((PACKAGE / "bounds.py").read_text())
        names = [node.targets[0].id for node in tree.body if isinstance(node, ast.Assign)]
        self.assertEqual(names, [
            "MAX_ANSWER", "MAX_EDITS", "MAX_KINDS", "MAX_NEEDS", "MAX_NEW", "MAX_ROWS", "MAX_TESTS", "MAX_WISHES"])

    def test_arguments_of_functions(self):
        for module, functions in FUNCTIONS.items():
            found = importlib.import_module(f"kindstocome.{module}")
            for name, arguments in functions.items():
                function = getattr(found, name)
                self.assertEqual((function.__module__, function.__name__), (f"kindstocome.{module}", name))
                self.assertEqual(parameters(function), arguments, name)
                for parameter in inspect.signature(function).parameters.values():
                    self.assertIs(parameter.kind, inspect.Parameter.POSITIONAL_OR_KEYWORD, name)
                    self.assertIs(parameter.default, inspect.Parameter.empty, name)

    def test_arguments_of_classes(self):
        for made, arguments in CLASSES.items():
            self.assertEqual(parameters(made), arguments, made)
            self.assertIn("__init__", vars(made))

    def test_classes_define_their_own_methods(self):
        for made, methods in METHODS.items():
            for name, arguments in methods.items():
                self.assertEqual(parameters(vars(made)[name])[1:], arguments, (made, name))
                for parameter in inspect.signature(vars(made)[name]).parameters.values():
                    self.assertIs(parameter.default, inspect.Parameter.empty, (made, name))

    def test_classes_define_their_own_properties(self):
        for made, names in PROPERTIES.items():
            for name in names:
                self.assertIsInstance(vars(made)[name], property, (made, name))
                self.assertIsNone(vars(made)[name].fset, (made, name))

    def test_bases(self):
        self.assertEqual(shelves.WishShelf.__bases__, (shelves.Shelf,))
        self.assertEqual(shelves.LoggedShelf.__bases__, (shelves.Shelf,))

    def test_functions_called_by_name(self):
        for module, functions in FUNCTIONS.items():
            found = importlib.import_module(f"kindstocome.{module}")
            for name, arguments in functions.items():
                named = {argument: VALUES[argument] for argument in reversed(arguments)}
                by_position = outcome(getattr(found, name), *[VALUES[argument] for argument in arguments])
                self.assertEqual(outcome(getattr(found, name), **named), by_position, name)

    def test_methods_called_by_name(self):
        kinds = hierarchies.Kinds(several=True, hollow=(0,), closed=(4,), elders=example().elders)
        self.assertEqual(kinds, example())
        self.assertEqual((kinds.above(kind=3), kinds.heirs(kind=0)), ((0, 1, 2, 3), (1, 2, 4)))
        self.assertIs(kinds.is_under(other=1, one=3), True)
        self.assertEqual((kinds.closing(some=(0,)).closed, kinds.opening(some=(4,)).closed), ((0, 4), ()))
        shelf = shelves.Shelf(choice=TREE, kinds=kinds)
        self.assertEqual((shelf.add(hollow=False, closed=True, elders=(1,)), shelf.close(kind=1)), (1, 2))
        self.assertEqual((shelf.reopen(kind=1), shelf.choose(value=ROWS), shelf.run(edits=())), (3, 4, 4))
        self.assertEqual(shelf(lot=(0, 1, 2)), 5)
        self.assertEqual(shelves.WishShelf(wishes=(), choice=TREE, kinds=kinds).wishes, ())
        self.assertEqual(shelves.LoggedShelf(choice=TREE, kinds=kinds).log, ())
        self.assertEqual(desks.Desk(shelf=shelf).say(line="undo"), "ok 3")

    def test_arguments_of_errors(self):
        arguments = {
            "Against": ["index", "lot"], "BadEdits": ["index"], "BadKinds": ["place"], "BadText": ["line", "code"],
            "BadTree": ["place"], "Rejected": ["index", "error"], "TooMany": ["limit"], "NoKind": ["kind"],
        }
        for name, wanted in arguments.items():
            self.assertEqual(parameters(getattr(errors, name).__init__)[1:], wanted, name)


if __name__ == "__main__":
    unittest.main()
