"""The interface: names, arguments, and where they are defined."""

import inspect
import unittest
from importlib import import_module

from tests.helpers import ERRORS_OF_VALUE

FUNCTIONS = {
    "margins": {
        "are_votes": ["game", "value"],
        "are_weights": ["game", "value"],
        "gains": ["game", "votes"],
        "least_margin": ["game", "votes"],
        "greatest_edge": ["game", "weights"],
    },
    "worths": {
        "worth": ["game"],
        "best_votes": ["game"],
        "hard_weights": ["game"],
    },
    "bounds": {
        "votes_for": ["game", "ratio"],
        "weights_against": ["game", "ratio"],
        "votes_hold": ["game", "ratio", "value"],
        "weights_hold": ["game", "ratio", "value"],
    },
    "choices": {
        "without": ["game", "r"],
        "with_few": ["game", "k"],
    },
    "few": {
        "fewest": ["game"],
        "few_votes": ["game"],
        "votes_of": ["game", "many"],
    },
    "walls": {
        "walls": ["game", "many"],
        "walls_hold": ["game", "many", "value"],
        "bars": ["game", "many"],
        "bars_hold": ["game", "many", "value"],
    },
    "boosting": {
        "weights_after": ["game", "rules"],
        "potential": ["game", "rules"],
        "boosted": ["game", "many"],
    },
    "faults": {
        "withstands": ["game", "votes", "example", "kind"],
        "breakers": ["game", "votes", "example", "kind"],
    },
    "claims": {
        "is_question": ["game", "value"],
        "is_claim": ["game", "value"],
        "answer_of": ["game", "question"],
        "question_of": ["game", "claim"],
    },
    "papers": {
        "paper_of": ["game", "question"],
        "claim_holds": ["game", "claim", "paper"],
    },
    "desk": {
        "same_state": ["one", "other"],
    },
}

# For each class what its objects are made of, and the methods that stand in it itself.
CLASSES = {
    "errors": {
        **{name: (["value"], ["__init__"]) for name in ERRORS_OF_VALUE},
        "Undefined": (["what"], ["__init__"]),
        "NothingToUndo": (["word"], ["__init__"]),
    },
    "games": {"Game": (["rows"], ["__init__", "__eq__"])},
    "desk": {"Desk": (["game"], ["__init__"])},
}

METHODS = {
    "show": ["row"],
    "hide": ["example"],
    "hire": ["column"],
    "dismiss": ["rule"],
    "turn": ["example", "rule", "sign"],
    "watch": ["question"],
    "leave": ["question"],
    "undo": [],
    "redo": [],
    "claim": ["question"],
    "paper": ["question"],
    "report": [],
}


def module_of(name):
    return import_module("votemargins." + name)


class Interface(unittest.TestCase):
    def test_functions(self):
        for file, functions in FUNCTIONS.items():
            for name, parameters in functions.items():
                function = getattr(module_of(file), name)
                self.assertTrue(inspect.isfunction(function), name)
                self.assertEqual(function.__module__, "votemargins." + file)
                self.assertEqual(list(inspect.signature(function).parameters), parameters, name)

    def test_classes(self):
        for file, classes in CLASSES.items():
            for name, (parameters, methods) in classes.items():
                told = getattr(module_of(file), name)
                self.assertTrue(inspect.isclass(told), name)
                self.assertEqual(told.__module__, "votemargins." + file)
                self.assertEqual(list(inspect.signature(told).parameters), parameters, name)
                for method in methods:
                    self.assertIn(method, vars(told), name)

    def test_methods_of_the_desk(self):
        desk = module_of("desk").Desk
        for name, parameters in METHODS.items():
            method = vars(desk)[name]
            self.assertTrue(inspect.isfunction(method), name)
            self.assertEqual(list(inspect.signature(method).parameters), ["self"] + parameters, name)

    def test_nothing_has_a_default(self):
        for file, functions in FUNCTIONS.items():
            for name in functions:
                for parameter in inspect.signature(getattr(module_of(file), name)).parameters.values():
                    self.assertIs(parameter.default, inspect.Parameter.empty)
                    self.assertIs(parameter.kind, inspect.Parameter.POSITIONAL_OR_KEYWORD)


if __name__ == "__main__":
    unittest.main()
