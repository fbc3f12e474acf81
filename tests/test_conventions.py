"""The conventions [0.2] over all functions of the interface."""

import copy
import importlib
import inspect
import unittest

from eyesonly.texts import read
from tests.helpers import ODD_VALUES, outcome_of, same_value

# The functions of the interface, by modules, with their parameters.
INTERFACE = {
    "trees": {
        "is_tree": "thing", "places": "tree", "is_place": "tree thing", "part_at": "tree place", "led": "tree place way",
        "next_place": "tree place", "tree_written": "tree", "tree_read": "text",
    },
    "terms": {"is_name": "thing", "is_term": "thing", "is_script": "thing"},
    "texts": {"written": "script", "read": "text"},
    "kinds": {
        "judge_script": "script", "script_holds": "script thing", "is_program": "thing", "has_choice": "program",
    },
    "meaning": {"run": "program tree call picks fuel", "is_call": "program tree thing"},
    "tables": {"lot": "program tree call", "reached": "program tree call", "answer": "program tree call"},
    "papers": {
        "judge_outcome": "program tree call value", "outcome_holds": "program tree call value thing",
        "judge_end": "program tree call", "end_holds": "program tree call thing",
    },
    "bounds": {"is_poly": "thing", "value_at": "poly number", "width": "program", "bound": "program"},
    "code": {
        "is_code": "thing", "is_accepted": "thing", "judge_code": "shape", "code_holds": "shape thing", "read_by": "row",
        "set_by": "row",
    },
    "codebounds": {"code_bound": "code"},
    "machines": {"run_plain": "code tree f places fuel"},
    "tabling": {
        "run_table": "code tree f places", "judge_run": "code tree f places", "run_holds": "code tree f places thing",
        "calls_met": "code tree f places",
    },
    "compiler": {"compiled": "program", "code_map": "program", "call_number": "program name"},
    "last": {
        "judge_last": "program", "last_holds": "program thing", "is_last": "program",
        "run_last": "program tree name places",
    },
    "heads": {
        "is_machine": "thing", "run_heads": "machine tree places", "heads_program": "machine",
        "heads_of": "program name",
    },
    "clocked": {
        "is_tape": "thing", "tape_standing": "machine tree c many", "tape_outcome": "machine tree c",
    },
    "made": {"made": "machine c"},
    "shelf": {
        "spine": "word", "word_of": "tree", "palindrome_program": "tags", "within_program": "word",
        "alike_program": "tags", "grammar_program": "rules", "reach_program": "ties", "game_program": "",
    },
    "queries": {"found": "program tree name", "found_pairs": "program tree name"},
    "chain": {"chain": "text tree name places"},
    "simplify": {
        "steps_from": "program", "is_step": "program thing", "after_step": "program step", "simplified": "program",
    },
}

TEXT = (
    "fun f(x): truth = empty(x) and g(x) fun g(x): truth = f2(x) fun f2(y): truth = not has(left(y), a) "
    "fun f3(x, y): truth = same(x, y)"
)
PROGRAM = read(TEXT)
CODE = (("truth", 1, 2, (("empty", 1, 0), ("unless", 1, 3), ("give", 1), ("call", 1, 0, (0,)), ("give", 1))),)
GOOD = {
    "thing": ("a", None, None), "tree": ("a", None, ("b", None, None)), "place": "r", "way": "up", "text": "",
    "script": PROGRAM, "program": PROGRAM, "call": ("f", ("r",)), "picks": "lr", "fuel": 9, "value": True,
    "poly": ((0, 2), (3, 1)), "number": 5, "shape": CODE, "code": CODE, "row": ("call", 1, 0, (0,)),
    "f": 0, "places": ("l",), "name": "f2", "c": 2, "many": 5, "word": ("a", "b"), "tags": ("a", "b"),
    "rules": (("s", "tag", "a"), ("s", "pair", "s", "s")), "ties": (("a", "b"),), "step": ("inline", (1, 4)),
}
HEADS = ("heads", 1, (("s", ("empty", 0), ("yes", ()), ("s", ((0, "left"),))),))
TAPE = ("tape", ("b",), 3, (((0, 0, 1), (1, 1, 0), (0, 2, 1)),))
# What is another value for some functions.
OTHERS = {
    "run_heads": {"machine": HEADS}, "heads_program": {"machine": HEADS}, "tape_standing": {"machine": TAPE},
    "tape_outcome": {"machine": TAPE}, "made": {"machine": TAPE}, "found_pairs": {"name": "f3"}, "chain": {"text": TEXT},
}


def interface():
    """Each function of the interface with the names of its parameters."""
    for module, functions in INTERFACE.items():
        for name, parameters in functions.items():
            yield module, getattr(importlib.import_module("eyesonly." + module), name), parameters.split()


def good_values(function, parameters):
    """Values for all parameters of a function."""
    return {name: {**GOOD, **OTHERS.get(function.__name__, {})}[name] for name in parameters}


def odd_values(name):
    """Odd values for a parameter, but for those that are far beyond the limits."""
    if name == "c":
        return [odd for odd in ODD_VALUES if odd != 10 ** 39]
    return [odd for odd in ODD_VALUES if odd != ("a",) * 3000] if name == "word" else ODD_VALUES


class Conventions(unittest.TestCase):
    def test_functions_stand_in_their_files(self):
        for module, function, parameters in interface():
            self.assertEqual(function.__module__, "eyesonly." + module)
            self.assertTrue(inspect.isfunction(function))
            self.assertEqual(list(inspect.signature(function).parameters), parameters)

    def test_parameters_by_position_and_by_name(self):
        for _, function, parameters in interface():
            values = good_values(function, parameters)
            expected = outcome_of(function, *values.values())
            self.assertTrue(same_value(outcome_of(function, **values), expected))
            self.assertTrue(same_value(outcome_of(function, **dict(reversed(list(values.items())))), expected))
            # No text is one of a tree and one of a script.
            self.assertEqual(expected[0], "raised" if function.__name__ == "tree_read" else "returned")

    def test_nothing_is_changed_and_results_are_the_same_again(self):
        for _, function, parameters in interface():
            for name in parameters:
                for odd in odd_values(name):
                    values = {**good_values(function, parameters), name: copy.deepcopy(odd)}
                    before = copy.deepcopy(values)
                    found = outcome_of(function, **values)
                    self.assertEqual(values, before)
                    self.assertEqual(outcome_of(function, **values), found)

    def test_only_errors_of_the_package_are_raised(self):
        for _, function, parameters in interface():
            for name in parameters:
                for odd in odd_values(name):
                    values = {**good_values(function, parameters), name: odd}
                    found = outcome_of(function, **values)
                    if found[0] == "raised":
                        self.assertTrue(hasattr(importlib.import_module("eyesonly.errors"), found[1]), (function, found))

    def test_questions_give_bools(self):
        for _, function, parameters in interface():
            if function.__name__.startswith("is_") or function.__name__.endswith("_holds"):
                for odd in ODD_VALUES:
                    others = {"thing": odd} if "thing" in parameters else {}
                    self.assertIsInstance(function(**{**good_values(function, parameters), **others}), bool)
