"""The form of the package: its files, their size, and the names of the interface."""

import ast
import unittest
from pathlib import Path

PACKAGE = Path(__file__).resolve().parent.parent / "nextwork"

# Where the document lists what, with the names of the arguments.
FUNCTIONS = {
    "quotients": {
        "is_fraction": ["value"], "fraction": ["top", "bottom"],
        "plus": ["one", "other"], "times": ["one", "other"], "compare": ["one", "other"],
    },
    "works": {"is_share": ["value"], "is_work": ["value"], "reached": ["work", "state"]},
    "stopping": {
        "spent": ["work", "share", "state", "states"], "rate": ["work", "share", "state", "states"],
    },
    "numbers": {
        "numbers": ["work", "share"], "states_above": ["work", "share", "state"],
        "states_not_less": ["work", "share", "state"], "ranking": ["work", "share"],
    },
    "shown": {
        "heights": ["work", "share", "bound"],
        "is_floor": ["work", "share", "state", "bound", "value"],
        "is_ceiling": ["work", "share", "state", "bound", "value"],
        "pay_for": ["work", "share", "state", "bound"],
    },
    "companies": {
        "is_company": ["value"], "standings": ["company"],
        "plan_values": ["company", "share", "plan"], "better_at": ["company", "share", "plan"],
    },
    "best": {
        "best_values": ["company", "share"], "rule_by_numbers": ["company", "share"],
        "rule_by_pays": ["company"], "is_rule": ["company", "value"],
        "rule_plan": ["company", "rule"], "loss": ["company", "share", "rule"],
    },
    "curves": {
        "curve": ["work", "share", "state"], "worth": ["work", "share", "state", "offer"],
        "company_curve": ["company", "share", "standing"],
        "company_worth": ["company", "share", "standing", "offer"],
    },
    "changes": {
        "change_values": ["company", "share", "price", "plan"],
        "best_with_changes": ["company", "share", "price"], "change_loss": ["company", "share", "price"],
    },
    "seen": {
        "rule_of": ["company", "choices"], "makes": ["company", "choices", "rule"],
        "is_ring": ["company", "choices", "value"],
    },
    "records": {"judge": ["record"]},
    "wanted": {"work_with": ["work", "share", "wanted"], "company_for": ["company", "share", "choices"]},
}
METHODS = {
    "__init__": ["self", "company", "share", "standing"], "go": ["self", "work", "state"],
    "set_pay": ["self", "work", "state", "pay"], "mark": ["self"], "back": ["self", "number"],
    "company": ["self"], "standing": ["self"], "log": ["self"], "earned": ["self"], "next_work": ["self"],
    "worth_now": ["self"], "cost_of": ["self", "work"], "marks": ["self"],
}
CLASSES = {
    "wrongs": [
        "WorkError", "NoFraction", "NoWork", "NoShare", "NoState", "NoStates", "NoCompany",
        "NoStanding", "NoChoice", "NoPlan", "NoRule", "NoPrice", "NoChoices", "NoNumbers",
        "NoRecord", "NoMove", "NoMark", "TooMany",
    ],
    "desk": ["Desk"],
}
LIBRARY = {"heapq", "math", "itertools", "collections", "__future__"}


def files():
    return sorted(path for path in PACKAGE.rglob("*") if path.is_file() and path.suffix != ".pyc")


def tree_of(name):
    return ast.parse((PACKAGE / f"{name}.py").read_text())


def arguments_of(body):
    """The names of the arguments of all functions that stand in the body itself."""
    return {
        node.name: [argument.arg for argument in node.args.args]
        for node in body if isinstance(node, ast.FunctionDef)
    }


class Form(unittest.TestCase):
    def test_files(self):
        self.assertIn(PACKAGE / "__init__.py", files())
        self.assertEqual([path for path in files() if path.suffix != ".py"], [])

    def test_size_and_characters(self):
        for path in files():
            text = path.read_bytes().decode("ascii")
            self.assertEqual([c for c in text if c != "\n" and not " " <= c <= "~"], [])
            self.assertLessEqual(len(text.splitlines()), 399)
            self.assertLessEqual(max(len(line) for line in text.splitlines()), 120)
            for node in ast.walk(ast.parse(text)):
                if isinstance(node, ast.FunctionDef):
                    self.assertLessEqual(node.end_lineno - node.lineno + 1, 40, node.name)

    def test_imports(self):
        for path in files():
            for node in ast.walk(ast.parse(path.read_text())):
                self.assertNotIsInstance(node, ast.Import)
                if isinstance(node, ast.ImportFrom):
                    self.assertEqual(node.level, 0)
                    top = node.module.split(".")[0]
                    self.assertIn(top, LIBRARY | {"nextwork"})

    def test_functions_stand_where_they_are_listed(self):
        for name, wanted in FUNCTIONS.items():
            told = arguments_of(tree_of(name).body)
            for function, arguments in wanted.items():
                self.assertEqual(told.get(function), arguments, function)

    def test_classes_stand_where_they_are_listed(self):
        for name, wanted in CLASSES.items():
            told = [node.name for node in tree_of(name).body if isinstance(node, ast.ClassDef)]
            self.assertEqual(sorted(told), sorted(wanted))

    def test_methods_stand_in_their_class(self):
        for node in tree_of("desk").body:
            if isinstance(node, ast.ClassDef):
                told = arguments_of(node.body)
                self.assertEqual({name: told.get(name) for name in METHODS}, METHODS)


if __name__ == "__main__":
    unittest.main()
