"""The names, arguments and places of the interface."""

import ast
import inspect
import pathlib
import unittest

from owedafresh import changes, differences, errors, ledgers, payments, readings, rules, texts, wholes

PACKAGE = pathlib.Path(__file__).resolve().parent.parent / "owedafresh"

FUNCTIONS = {
    rules: {
        "anew": ["rule", "bills", "index", "amount"],
        "beside": ["rule", "bills", "index", "amount"],
        "by_rows": ["people", "rows"],
        "in_turn": ["people"],
    },
    wholes: {
        "is_whole": ["rule"],
        "rows": ["rule"],
        "judge": ["rule", "told"],
        "unlike": ["rule"],
        "first_unlike": ["one", "other"],
        "least": ["rule"],
    },
    differences: {
        "greatest": ["rule", "name"],
        "lowest": ["rule", "name"],
        "greatest_bills": ["rule", "name"],
        "lowest_bills": ["rule", "name"],
        "growing": ["rule", "name"],
        "sinking": ["rule", "name"],
        "bounds": ["rule", "name"],
        "judge_bounds": ["rule", "name", "told"],
    },
    changes: {
        "changes": ["rule", "name"],
        "lowered": ["rule", "name"],
        "pairs": ["rule"],
        "judge_changes": ["rule", "name", "told"],
    },
    payments: {
        "fewest": ["balances"],
        "groups": ["balances"],
        "payments": ["balances"],
        "settles": ["balances", "told"],
    },
    texts: {
        "show_rule": ["rule"],
        "show_bills": ["bills"],
    },
    readings: {
        "read_rule": ["text"],
        "read_bills": ["text"],
    },
}
CLASSES = {
    errors: ["BillError", "InvalidName", "DoubleName", "InvalidWeight", "NoWeight", "InvalidState", "InvalidRow",
             "UnknownPerson", "UnknownBill", "UnlikePeople", "NotWhole", "NotEven", "NothingToUndo", "Unreadable"],
    rules: ["Rule"],
    ledgers: ["Ledger", "BesideLedger"],
}


def defined_in(module):
    """The names that a file defines by def and class, at module level."""
    tree = ast.parse(pathlib.Path(module.__file__).read_text())
    return [node.name for node in tree.body if isinstance(node, (ast.FunctionDef, ast.ClassDef))]


class TestInterface(unittest.TestCase):
    def test_functions_with_their_arguments(self):
        for module, functions in FUNCTIONS.items():
            for name, arguments in functions.items():
                parameters = inspect.signature(getattr(module, name)).parameters
                self.assertEqual(list(parameters), arguments)
                for parameter in parameters.values():
                    self.assertIs(parameter.kind, inspect.Parameter.POSITIONAL_OR_KEYWORD)
                    self.assertIs(parameter.default, inspect.Parameter.empty)

    def test_each_name_is_defined_in_its_file(self):
        for table in (FUNCTIONS, CLASSES):
            for module, names in table.items():
                self.assertEqual(pathlib.Path(module.__file__).parent, PACKAGE)
                for name in names:
                    self.assertIn(name, defined_in(module))
                    self.assertEqual(getattr(module, name).__module__, module.__name__)

    def test_the_rule(self):
        own = vars(rules.Rule)
        self.assertEqual(list(inspect.signature(rules.Rule).parameters), ["people", "states"])
        for name in ("people", "states", "weight"):
            self.assertIsInstance(own[name], property)
        for name in ("__getitem__", "__len__", "__eq__", "shares", "state"):
            self.assertTrue(inspect.isfunction(own[name]))
        self.assertEqual(list(inspect.signature(rules.Rule.shares).parameters), ["self", "bills"])
        self.assertEqual(list(inspect.signature(rules.Rule.state).parameters), ["self", "bills"])

    def test_the_ledgers(self):
        own = vars(ledgers.Ledger)
        self.assertIsInstance(own["bills"], property)
        methods = {"__call__": ["self", "name", "amount"], "correct": ["self", "index", "amount"],
                   "pay": ["self", "name", "other", "amount"], "balances": ["self"], "shares": ["self"],
                   "undo": ["self"], "__len__": ["self"], "__eq__": ["self", "other"]}
        for name, arguments in methods.items():
            self.assertEqual(list(inspect.signature(own[name]).parameters), arguments)
        beside = vars(ledgers.BesideLedger)["correct"]
        self.assertEqual(list(inspect.signature(beside).parameters), ["self", "index", "amount"])
        for kind in (ledgers.Ledger, ledgers.BesideLedger):
            self.assertEqual(list(inspect.signature(kind).parameters), ["rule"])

    def test_the_kinds_of_values(self):
        people = [("ann", 1), ("bob", 1)]
        rule = rules.in_turn(people)
        self.assertIs(type(rule), rules.Rule)
        self.assertIs(type(rules.by_rows(people, [[0, 0], [1, 0]])), rules.Rule)
        lists = [rule.people, rule.states, rule.states[0], rule.states[0][0][0], rule.shares([3]), wholes.rows(rule),
                 wholes.rows(rule)[0], rules.anew(rule, [1], 0, 2), rules.beside(rule, [1], 0, 2)]
        for value in lists:
            self.assertIs(type(value), list)
        for value in (rule.people[0], rule.states[0][0]):
            self.assertIs(type(value), tuple)
        for value in (rule.weight, rule["ann"], len(rule), rule.state([3]), rule.shares([3])[0], rule.states[0][0][1]):
            self.assertIs(type(value), int)
        self.assertIs(type(rule.people[0][0]), str)


if __name__ == "__main__":
    unittest.main()
