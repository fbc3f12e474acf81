"""The plain machine: points [8.1] and [8.2]."""

import random
import time
import unittest

from eyesonly.code import is_accepted
from eyesonly.compiler import compiled
from eyesonly.machines import run_plain
from eyesonly.texts import read
from eyesonly.trees import is_tree
from tests.codes import CodeMaker
from tests.helpers import ODD_VALUES, chain, check_order, check_raises, same_value
from tests.machines import all_code_calls, plain_by_words
from tests.programs import small_trees

T = ("a", ("b", None, None), None)
LAST = (("place", 1, 3, (("right", 1, 0), ("empty", 2, 1), ("unless", 2, 4), ("give", 0), ("call", 1, 0, (1,)), ("give", 1))),)


class PlainMachine(unittest.TestCase):
    def check(self, code, f, places, expected, tree=T):
        """The run has this outcome after so many steps."""
        self.assertIs(is_accepted(code), True)
        outcome, steps = expected
        for fuel in (steps, steps + 1, 20000):
            self.assertTrue(same_value(run_plain(code, tree, f, places, fuel), ("given", outcome, steps)), (code, f, places))
        for fuel in {0, 1, steps // 2, steps - 1} - {steps}:
            self.assertEqual(run_plain(code, tree, f, places, fuel), ("out",))

    def row(self, row, place, outcome, kind="truth"):
        """A function of one name with this row, which sets register 1."""
        self.check(((kind, 1, 3, (row, ("give", 1))),), 0, (place,), (outcome, 2))

    def test_rows_that_set_a_place(self):
        for place in ("", "l", "ll", "r"):
            self.row(("top", 1), place, "", "place")
            self.row(("move", 1, 0), place, place, "place")
        for word, ways in (("left", (("", "l"), ("l", "ll"), ("ll", "ll"), ("r", "r"))), ("right", (("", "r"), ("l", "lr"), ("lr", "lr"), ("r", "r"))),
                           ("up", (("", ""), ("l", ""), ("ll", "l"), ("lr", "l"), ("r", "")))):
            for place, outcome in ways:
                self.row((word, 1, 0), place, outcome, "place")

    def test_rows_that_set_a_truth(self):
        self.row(("yes", 1), "", True)
        self.row(("no", 1), "", False)
        for place, tag, outcome in (("", "a", True), ("", "b", False), ("l", "b", True), ("l", "a", False), ("r", "a", False), ("ll", "b", False)):
            self.row(("has", 1, 0, tag), place, outcome)
        for place, outcome in (("", False), ("l", False), ("r", True), ("ll", True)):
            self.row(("empty", 1, 0), place, outcome)
        code = (("truth", 2, 3, (("same", 2, 0, 1), ("give", 2))),)
        for places in (("", ""), ("l", "l"), ("r", "l"), ("", "r"), ("lr", "ll")):
            self.check(code, 0, places, (places[0] == places[1], 2))
        for place, outcome in (("", True), ("r", False)):
            self.check((("truth", 1, 2, (("empty", 1, 0), ("not", 1, 1), ("give", 1))),), 0, (place,), (outcome, 3))

    def test_move_of_a_truth(self):
        rows = (("empty", 1, 0), ("move", 2, 1), ("move", 0, 2), ("not", 1, 1), ("give", 0))
        for place, outcome in (("", False), ("r", True)):
            self.check((("truth", 1, 3, rows),), 0, (place,), (outcome, 5))

    def test_move_keeps_what_was_there(self):
        rows = (("move", 1, 0), ("left", 0, 0), ("move", 2, 0), ("up", 0, 0), ("same", 1, 1, 0), ("give", 2))
        self.check((("place", 1, 3, rows),), 0, ("",), ("l", 6))

    def test_skip_and_unless(self):
        rows = (("empty", 1, 0), ("unless", 1, 4), ("skip", 6), ("no", 1), ("no", 1), ("give", 1), ("yes", 1), ("give", 1))
        code = (("truth", 1, 2, rows),)
        self.check(code, 0, ("",), (False, 4))
        self.check(code, 0, ("r",), (True, 5))
        self.check((("truth", 0, 1, (("yes", 0), ("unless", 0, 3), ("no", 0), ("give", 0))),), 0, (), (False, 4))
        self.check((("truth", 0, 1, (("no", 0), ("unless", 0, 2), ("not", 0, 0), ("give", 0))),), 0, (), (True, 4))

    def test_give(self):
        self.check((("place", 2, 2, (("give", 1), ("give", 0))),), 0, ("l", "r"), ("r", 1))

    def test_calls(self):
        code = (
            ("truth", 1, 3, (("call", 1, 1, (0,)), ("call", 2, 1, (1,)), ("same", 1, 1, 2), ("give", 1))),
            ("place", 1, 2, (("call", 1, 2, (0, 0)), ("right", 1, 1), ("give", 1))),
            ("place", 2, 3, (("left", 0, 0), ("up", 1, 1), ("same", 2, 0, 1), ("unless", 2, 5), ("give", 1), ("give", 0))),
        )
        self.check(code, 2, ("l", "ll"), ("ll", 5))
        self.check(code, 1, ("",), ("lr", 8))
        self.check(code, 0, ("",), (True, 20))
        # The registers of a function that calls itself are not those of the one that waits for it.
        self.check((("place", 1, 3, (("right", 2, 0), ("empty", 1, 0), ("unless", 1, 4), ("give", 0), ("call", 1, 0, (2,)), ("up", 1, 0),
                                     ("give", 1))),), 0, ("",), ("", 10))
        self.check(LAST, 0, ("",), ("", 4))
        self.check(LAST, 0, ("",), ("rr", 14), chain("rrr"))

    def test_fuel(self):
        self.assertEqual(run_plain(LAST, chain("rr"), 0, ("",), 8), ("out",))
        self.assertEqual(run_plain(LAST, chain("rr"), 0, ("",), 9), ("given", "r", 9))
        self.assertEqual(run_plain(LAST, chain("rr"), 0, ("",), 0), ("out",))
        self.assertEqual(run_plain((("place", 1, 1, (("give", 0),)),), T, 0, ("",), 0), ("out",))
        self.assertEqual(run_plain((("place", 1, 1, (("give", 0),)),), T, 0, ("",), 1), ("given", "", 1))

    def test_endless_runs(self):
        for code in ((("truth", 1, 2, (("up", 1, 0), ("call", 1, 0, (1,)), ("give", 1))),),
                     (("place", 0, 1, (("call", 0, 0, ()), ("give", 0))),),
                     (("truth", 0, 1, (("call", 0, 1, ()), ("give", 0))), ("truth", 0, 1, (("call", 0, 0, ()), ("not", 0, 0), ("give", 0))))):
            for fuel in (0, 1, 2, 999, 20000):
                self.assertEqual(run_plain(code, T, 0, ("l",) * code[0][1], fuel), ("out",))

    def test_thousands_of_calls_one_within_another(self):
        program = read("fun f(x, y): truth = if not empty(y) then not f(x, right(y)) else if not empty(x) then not f(right(x), top) else yes")
        tree = chain("r" * 40)
        expected = plain_by_words(compiled(program), tree, 0, ("", ""), 20000)
        self.assertEqual(expected[:2], ("given", True))
        self.check(compiled(program), 0, ("", ""), expected[1:], tree)
        code = (("truth", 2, 3, (("empty", 2, 0), ("unless", 2, 5), ("empty", 2, 1), ("unless", 2, 7), ("give", 2), ("right", 0, 0),
                                 ("skip", 9), ("right", 1, 1), ("top", 0), ("call", 2, 0, (0, 1)), ("not", 2, 2), ("give", 2))),)
        self.check(code, 0, ("", ""), plain_by_words(code, tree, 0, ("", ""), 20000)[1:], tree)
        self.assertGreater(plain_by_words(code, tree, 0, ("", ""), 20000)[2], 11000)

    def test_random_code(self):
        maker, source = CodeMaker(131), random.Random(137)
        words = {}
        for size in range(400):
            code = maker.code(1 + size % 4, size % 3, 1 + size % 14)
            tree = small_trees()[size % 8]
            for f, places in source.sample(all_code_calls(code, tree), min(8, len(all_code_calls(code, tree)))):
                expected = plain_by_words(code, tree, f, places, 400)
                self.assertTrue(same_value(run_plain(code, tree, f, places, 400), expected), (code, tree, f, places))
                words[expected[0], expected[-1] == "out" or expected[-1] > 20] = True
                if expected[0] == "given":
                    self.assertEqual(run_plain(code, tree, f, places, expected[2]), expected)
                    self.assertEqual(run_plain(code, tree, f, places, expected[2] - 1), ("out",))
        self.assertEqual(len(words), 3)

    def test_many_rows(self):
        rows = (("move", 1, 0),) * 11999 + (("give", 1),)
        begun = time.monotonic()
        self.assertEqual(run_plain((("place", 1, 2, rows),), T, 0, ("l",), 20000), ("given", "l", 12000))
        self.assertEqual(run_plain((("place", 1, 2, rows),), T, 0, ("l",), 11999), ("out",))
        self.assertLess(time.monotonic() - begun, 20)


class Errors(unittest.TestCase):
    CODE = LAST + (("truth", 0, 1, (("yes", 0), ("give", 0))), ("truth", 2, 3, (("same", 2, 0, 1), ("give", 2))))
    GOOD = {"code": CODE, "tree": T, "f": 2, "places": ("l", "r"), "fuel": 9}

    def test_order(self):
        refused = (("place", 1, 1, (("give", 0), ("give", 1))),)
        wrong = {"code": (refused, "BadCode", refused), "tree": (["a"], "BadTree", ["a"]), "f": (3, "BadNumber", 3)}
        check_order(self, run_plain, self.GOOD, wrong)
        wrong = {"places": (("l", "rr"), "BadPlaces", ("l", "rr")), "fuel": (-1, "BadNumber", -1), "tree": (0, "BadTree", 0)}
        check_order(self, run_plain, self.GOOD, wrong)
        # Which places are wrong depends on f, so f is judged first.
        check_raises(self, "BadNumber", None, run_plain, self.CODE, T, None, None, None)

    def test_each_wrong_argument(self):
        for thing in ODD_VALUES + [3, ("l", "r", ""), ("l", None), ["l", "r"], ("l", "lll"), (("l", "r"),), {"l": "r"}, (LAST[0],) + LAST]:
            if not is_accepted(thing):
                check_raises(self, "BadCode", thing, run_plain, thing, T, 0, ("l",), 9)
            if not is_tree(thing):
                check_raises(self, "BadTree", thing, run_plain, self.CODE, thing, 0, ("",), 9)
            if type(thing) is not int or not 0 <= thing < 3:
                check_raises(self, "BadNumber", thing, run_plain, self.CODE, T, thing, ("l",), 9)
            if type(thing) is not int or thing < 0:
                check_raises(self, "BadNumber", thing, run_plain, self.CODE, T, 0, ("l",), thing)
            check_raises(self, "BadPlaces", thing, run_plain, self.CODE, T, 2, thing, 9)
            if thing != ():
                check_raises(self, "BadPlaces", thing, run_plain, self.CODE, T, 1, thing, 9)

    def test_no_functions(self):
        for thing in (0, 1, None, ()):
            check_raises(self, "BadNumber", thing, run_plain, (), T, thing, (), 9)

    def test_large_fuel(self):
        self.assertEqual(run_plain(self.CODE, T, 1, (), 10 ** 39), ("given", True, 2))
