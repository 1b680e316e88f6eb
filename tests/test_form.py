"""The form of the package: its files, their size, and the names of the interface."""

import ast
import unittest
from pathlib import Path

PACKAGE = Path(__file__).resolve().parent.parent / "nextwork"

# Where the document lists what, with the names of the arguments.
FUNCTIONS = {
    "quotients": {
        "is_fraction": ["value"], "fraction": ["top", "bottom"],
        "plus": ["one", "other"], "times": ["one", "other"], "compare": ["one", "other"],
    },
    "works": {"is_share": ["value"], "is_work": ["value"], "reached": ["work", "state"]},
    "stopping": {
        "spent": ["work", "share", "state", "states"], "rate": ["work", "share", "state", "states"],
    },
    "numbers": {
        "numbers": ["work", "share"], "states_above": ["work", "share", "state"],
        "states_not_less": ["work", "share", "state"], "ranking": ["work", "share"],
    },
    "shown": {
        "heights": ["work", "share", "bound"],
        "is_floor": ["work", "share", "state", "bound", "value"],
        "is_ceiling": ["work", "share", "state", "bound", "value"],
        "pay_for": ["work", "share", "state", "bound"],
    },
    "companies": {
        "is_company": ["value"], "standings": ["company"],
        "plan_values": ["company", "share", "plan"], "better_at": ["company", "share", "plan"],
    },
    "best": {
        "best_values": ["company", "share"], "rule_by_numbers": ["company", "share"],
        "rule_by_pays": ["company"], "is_rule": ["company", "value"],
        "rule_plan": ["company", "rule"], "loss": ["company", "share", "rule"],
    },
    "curves": {
        "curve": ["work", "share", "state"], "worth": ["work", "share", "state", "offer"],
        "company_curve": ["company", "share", "standing"],
        "company_worth": ["company", "share", "standing", "offer"],
    },
    "changes": {
        "change_values": ["company", "share", "price", "plan"],
        "best_with_changes": ["company", "share", "price"], "change_loss": ["company", "share", "price"],
    },
}
CLASSES = {
    "wrongs": [
        "WorkError", "NoFraction", "NoWork", "NoShare", "NoState", "NoStates", "NoCompany",
        "NoStanding", "NoChoice", "NoPlan", "NoRule", "NoPrice", "NoChoices", "NoNumbers",
        "NoRecord", "NoMove", "NoMark", "TooMany",
    ],
}
LIBRARY = {"heapq", "math", "itertools", "collections", "__future__"}


def files():
    return sorted(path for path in PACKAGE.rglob("*") if path.is_file() and path.suffix != ".pyc")


def tree_of(name):
    return ast.parse((PACKAGE / f"{name}.py").read_text())


class Form(unittest.TestCase):
    def test_files(self):
        self.assertIn(PACKAGE / "__init__.py", files())
        self.assertEqual([path for path in files() if path.suffix != ".py"], [])

    def test_size_and_characters(self):
        for path in files():
            text = path.read_bytes().decode("ascii")
            self.assertEqual([c for c in text if c != "\n" and not " " <= c <= "~"], [])
            self.assertLessEqual(len(text.splitlines()), 399)
            self.assertLessEqual(max(len(line) for line in text.splitlines()), 120)
            for node in ast.walk(ast.parse(text)):
                if isinstance(node, ast.FunctionDef):
                    self.assertLessEqual(node.end_lineno - node.lineno + 1, 40, node.name)

    def test_imports(self):
        for path in files():
            for node in ast.walk(ast.parse(path.read_text())):
                self.assertNotIsInstance(node, ast.Import)
                if isinstance(node, ast.ImportFrom):
                    self.assertEqual(node.level, 0)
                    top = node.module.split(".")[0]
                    self.assertIn(top, LIBRARY | {"nextwork"})

    def test_functions_stand_where_they_are_listed(self):
        for name, wanted in FUNCTIONS.items():
            told = {
                node.name: [argument.arg for argument in node.args.args]
                for node in tree_of(name).body if isinstance(node, ast.FunctionDef)
            }
            for function, arguments in wanted.items():
                self.assertEqual(told.get(function), arguments, function)

    def test_classes_stand_where_they_are_listed(self):
        for name, wanted in CLASSES.items():
            told = [node.name for node in tree_of(name).body if isinstance(node, ast.ClassDef)]
            self.assertEqual(sorted(told), sorted(wanted))


if __name__ == "__main__":
    unittest.main()
