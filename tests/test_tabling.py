"""The table machine: points [8.3] and [8.4], and what the guarantee [0.3] says of it."""

import random
import unittest

from eyesonly.bounds import value_at
from eyesonly.code import is_accepted
from eyesonly.codebounds import code_bound
from eyesonly.compiler import compiled
from eyesonly.machines import run_plain
from eyesonly.tabling import calls_met, judge_run, run_holds, run_table
from eyesonly.texts import read
from eyesonly.trees import is_tree, places
from tests.codes import CodeMaker
from tests.helpers import ODD_VALUES, chain, check_order, check_raises, same_value
from tests.machines import TableByWords, all_code_calls, compiled_by_words
from tests.programs import ProgramMaker, small_trees

T = ("a", ("b", None, None), None)
LAST = (("place", 1, 3, (("right", 1, 0), ("empty", 2, 1), ("unless", 2, 4), ("give", 0), ("call", 1, 0, (1,)), ("give", 1))),)
RING = (("truth", 1, 2, (("up", 1, 0), ("call", 1, 0, (1,)), ("give", 1))),)
# Function 0 leads into a ring of 1, 2 and 3; 4 is called on the way and gives; 5 waits for itself.
LEADING = (
    ("truth", 1, 2, (("call", 1, 4, (0,)), ("call", 1, 1, (0,)), ("give", 1))),
    ("truth", 1, 2, (("call", 1, 4, (0,)), ("call", 1, 2, (0,)), ("not", 1, 1), ("give", 1))),
    ("truth", 1, 3, (("move", 2, 0), ("call", 1, 3, (2,)), ("give", 1))),
    ("truth", 1, 3, (("up", 2, 0), ("call", 1, 4, (2,)), ("unless", 1, 5), ("call", 1, 1, (2,)), ("give", 1), ("call", 1, 1, (0,)), ("give", 1))),
    ("truth", 1, 2, (("empty", 1, 0), ("not", 1, 1), ("give", 1))),
    ("place", 1, 1, (("call", 0, 5, (0,)), ("give", 0))),
)


class TableMachine(unittest.TestCase):
    def check(self, code, f, asked, expected=None, met=None, tree=T):
        by_words = TableByWords(code, tree, f, asked)
        found = run_table(code, tree, f, asked)
        self.assertTrue(same_value(found, by_words.result), (code, tree, f, asked, found, by_words.result))
        self.assertEqual(calls_met(code, tree, f, asked), tuple(sorted(by_words.met)))
        self.assertLessEqual(found[2], value_at(code_bound(code), len(places(tree))))
        if expected is not None:
            self.assertEqual(found, expected)
        if met is not None:
            self.assertEqual(calls_met(code, tree, f, asked), met)
        return found

    def test_one_call(self):
        self.check((("place", 1, 1, (("give", 0),)),), 0, ("l",), ("given", "l", 1), ((0, ("l",)),))
        self.check(LAST, 0, ("r",), ("given", "r", 4), ((0, ("r",)),))

    def test_rows_at_which_a_run_stops_count(self):
        word = ("a", None, ("b", None, None))
        self.check(LAST, 0, ("",), ("given", "r", 13), ((0, ("",)), (0, ("r",))), word)
        # Four rows that stop, then four that give, then five more.
        self.check(LAST, 0, ("",), ("given", "rr", 22), ((0, ("",)), (0, ("r",)), (0, ("rr",))), chain("rrr"))

    def test_a_known_outcome_is_not_asked_for_again(self):
        code = (("truth", 1, 3, (("call", 1, 1, (0,)), ("call", 2, 1, (0,)), ("call", 2, 1, (0,)), ("give", 2))),
                ("truth", 1, 2, (("empty", 1, 0), ("give", 1))))
        self.check(code, 0, ("",), ("given", False, 1 + 2 + 4), ((0, ("",)), (1, ("",))))

    def test_calls_that_wait_for_themselves(self):
        self.check(LEADING, 5, ("l",), ("endless", ((5, ("l",)),), 1), ((5, ("l",)),))
        self.check(RING, 0, ("",), ("endless", ((0, ("",)),), 2), ((0, ("",)),))

    def test_rings(self):
        self.check(RING, 0, ("ll",), ("endless", ((0, ("ll",)), (0, ("l",)), (0, ("",))), 6), ((0, ("",)), (0, ("l",)), (0, ("ll",))))
        ring = ((1, ("",)), (2, ("",)), (3, ("",)))
        self.check(LEADING, 1, ("",), ("endless", ring, 1 + 3 + 2 + 2 + 4), ring + ((4, ("",)),))
        self.check(LEADING, 2, ("",), ("endless", ring[1:] + ring[:1], 2 + 2 + 3 + 4 + 2), ring + ((4, ("",)),))
        self.check(LEADING, 3, ("",), ("endless", ring[2:] + ring[:2], 2 + 3 + 4 + 2 + 2), ring + ((4, ("",)),))

    def test_calls_that_lead_into_a_ring(self):
        lead = ((0, ("l",)), (1, ("l",)), (2, ("l",)), (3, ("l",)), (1, ("",)), (2, ("",)), (3, ("",)))
        found = self.check(LEADING, 0, ("l",))
        self.assertEqual(found[:2], ("endless", lead))
        self.assertEqual(calls_met(LEADING, T, 0, ("l",)), tuple(sorted(lead + ((4, ("",)), (4, ("l",))))))
        self.assertEqual(self.check(LEADING, 0, ("r",))[1], ((0, ("r",)), (1, ("r",)), (2, ("r",)), (3, ("r",))) + lead[4:])

    def test_the_order_of_the_runs(self):
        code = (("truth", 1, 3, (("call", 1, 1, (0,)), ("call", 2, 2, (0,)), ("give", 2))),
                ("truth", 1, 2, (("call", 1, 3, (0,)), ("give", 1))),
                ("truth", 1, 2, (("call", 1, 3, (0,)), ("call", 1, 1, (0,)), ("not", 1, 1), ("give", 1))),
                ("truth", 1, 2, (("empty", 1, 0), ("give", 1))))
        by_words = TableByWords(code, T, 0, ("",))
        self.assertEqual([f for f, _ in by_words.runs], [0, 1, 3, 1, 0, 2, 0])
        self.check(code, 0, ("",), ("given", True, 1 + 1 + 2 + 2 + 2 + 4 + 3), tuple((f, ("",)) for f in range(4)))

    def test_calls_that_are_not_met(self):
        code = (("truth", 1, 2, (("empty", 1, 0), ("unless", 1, 4), ("call", 1, 1, (0,)), ("give", 1), ("call", 1, 2, (0,)), ("give", 1))),
                ("truth", 1, 2, (("yes", 1), ("give", 1))), ("truth", 1, 2, (("no", 1), ("give", 1))))
        self.check(code, 0, ("",), None, ((0, ("",)), (2, ("",))))
        self.check(code, 0, ("r",), None, ((0, ("r",)), (1, ("r",))))

    def test_random_code(self):
        maker, source = CodeMaker(139), random.Random(149)
        words = {}
        for size in range(700):
            code = maker.code(1 + size % 5, size % 3, 1 + size % 14)
            tree = small_trees()[size % 8]
            calls = all_code_calls(code, tree)
            for f, asked in source.sample(calls, min(6, len(calls))):
                found = self.check(code, f, asked, None, None, tree)
                plain = run_plain(code, tree, f, asked, 3000)
                if plain[0] == "given":
                    self.assertEqual(found[:2], plain[:2])
                if found[0] == "endless":
                    self.assertEqual(plain, ("out",))
                key = (found[0], len(calls_met(code, tree, f, asked)) > 3, len(found[1]) > 1 if found[0] == "endless" else None)
                words[key] = words.get(key, 0) + 1
        self.assertEqual(len(words), 5, words)

    def test_compiled_programs(self):
        maker, source = ProgramMaker(151, False), random.Random(157)
        for size in range(200):
            program = maker.program(1 + size % 4, 2, 1 + size % 5)
            code, tree = compiled_by_words(program), small_trees()[size % 6]
            calls = all_code_calls(code, tree)
            for f, asked in source.sample(calls, min(6, len(calls))):
                self.check(code, f, asked, None, None, tree)

    def test_rows_stay_near_the_bound(self):
        # Each call waits once at each of its call rows, which stand at its end.
        code = (("truth", 1, 2, (("empty", 1, 0), ("unless", 1, 3), ("give", 1), ("left", 1, 0), ("call", 1, 0, (1,)), ("give", 1))),)
        tree = chain("l" * 30)
        found = self.check(code, 0, ("",), None, None, tree)
        self.assertEqual(found, ("given", True, 30 * 4 + 3 + 30 * 5))
        rows = (("give", 0),) + (("call", 0, 0, (0,)),) * 20 + (("give", 0),)
        self.check((("place", 1, 1, rows),), 0, ("l",), ("given", "l", 1))

    def test_an_exponential_run(self):
        program = read("fun f(x): truth = if empty(x) then yes else f(right(x)) and f(right(x)) fun g(x): truth = not f(x) or g(x)")
        tree = chain("r" * 40)
        self.assertEqual(run_plain(compiled(program), tree, 0, ("",), 20000), ("out",))
        self.assertEqual(self.check(compiled(program), 0, ("",), None, None, tree)[:2], ("given", True))
        self.assertEqual(self.check(compiled(program), 1, ("r",), None, None, tree)[:2], ("endless", ((1, ("r",)),)))

    def test_thousands_of_calls(self):
        text = ("fun f(x, y, z): truth = if not empty(y) then not f(x, right(y), z) else if not empty(x) then not f(right(x), top, z) "
                "else if same(z, top) then not f(top, top, left(top)) else ")
        tree = chain("r" * 40)
        for end, word, value in (("yes", "given", False), ("f(top, top, top)", "endless", None), ("f(x, y, z)", "endless", None)):
            code = compiled(read(text + end))
            found = self.check(code, 0, ("", "", ""), None, None, tree)
            self.assertEqual(found[0], word)
            self.assertEqual(len(calls_met(code, tree, 0, ("", "", ""))), 3362)
            if word == "endless":
                self.assertEqual(len(found[1]), 3362)
            paper = judge_run(code, tree, 0, ("", "", ""))
            self.assertEqual(paper[0], word)
            self.assertIs(run_holds(code, tree, 0, ("", "", ""), paper), True)
            if value is not None:
                self.assertIs(found[1], value)


class Errors(unittest.TestCase):
    CODE = LAST + (("truth", 0, 1, (("yes", 0), ("give", 0))), ("truth", 2, 3, (("same", 2, 0, 1), ("give", 2))))

    def test_order(self):
        refused = (("place", 1, 1, (("give", 0), ("give", 1))),)
        good = {"code": self.CODE, "tree": T, "f": 2, "places": ("l", "r")}
        wrong = {
            "code": (refused, "BadCode", refused), "tree": (["a"], "BadTree", ["a"]), "f": (3, "BadNumber", 3),
            "places": (["l", "r"], "BadPlaces", ["l", "r"]),
        }
        for function in (run_table, judge_run, calls_met):
            check_order(self, function, good, wrong)
        check_order(self, run_holds, {**good, "thing": None}, wrong)

    def test_each_wrong_argument(self):
        things = ODD_VALUES + [3, ("l", "r", ""), ("l", None), ["l", "r"], ("l", "lll"), (("l", "r"),), {"l": "r"}, (LAST[0],) + LAST + ((),)]
        for function, more in ((run_table, ()), (judge_run, ()), (calls_met, ()), (run_holds, (None,))):
            for thing in things:
                if not is_accepted(thing):
                    check_raises(self, "BadCode", thing, function, thing, T, 0, ("l",), *more)
                if not is_tree(thing):
                    check_raises(self, "BadTree", thing, function, self.CODE, thing, 0, ("",), *more)
                if type(thing) is not int or not 0 <= thing < 3:
                    check_raises(self, "BadNumber", thing, function, self.CODE, T, thing, ("l",), *more)
                check_raises(self, "BadPlaces", thing, function, self.CODE, T, 2, thing, *more)
                if thing != ():
                    check_raises(self, "BadPlaces", thing, function, self.CODE, T, 1, thing, *more)
            check_raises(self, "BadNumber", 0, function, (), T, 0, (), *more)
