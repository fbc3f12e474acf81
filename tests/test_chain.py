"""The whole chain: point [12.4], and the heading "eyesonly/chain.py"."""

import random
import unittest

from eyesonly.bounds import value_at
from eyesonly.chain import chain
from eyesonly.codebounds import code_bound
from eyesonly.compiler import call_number, compiled
from eyesonly.meaning import run
from eyesonly.tables import answer
from eyesonly.tabling import run_table
from eyesonly.texts import read, written
from tests.helpers import ODD_VALUES, check_order, check_raises, outcome_of, same_value
from tests.helpers import chain as tree_chain
from tests.programs import ProgramMaker, all_calls, small_trees, tree_parts

T = ("a", ("b", None, None), None)
WORD = ("a", None, ("b", None, None))
LAST = "fun last(x): place = if empty(right(x)) then x else last(right(x))"


class Chains(unittest.TestCase):
    def check(self, text, tree, name, places, expected=None):
        """The result, by each part of the chain for itself."""
        result = chain(text, tree, name, places)
        program = read(text)
        code = compiled(program)
        word, value, rows = run_table(code, tree, call_number(program, name), places)
        most = value_at(code_bound(code), len(tree_parts(tree)))
        self.assertTrue(same_value(result, (value if word == "given" else "endless", rows, most)), (text, tree, name, places, result))
        self.assertLessEqual(rows, most)
        whole = answer(program, tree, (name, places))
        self.assertTrue(same_value(result[0], "endless" if whole is None else whole))
        plain = run(program, tree, (name, places), "", 2000)
        if plain[0] == "outcome":
            self.assertTrue(same_value(result[0], plain[1]))
        elif result[0] != "endless":
            # A run that is not endless ends with more fuel.
            plain = run(program, tree, (name, places), "", 20000)
            self.assertTrue(plain[0] == "cut" or same_value(result[0], plain[1]))
        if expected is not None:
            self.assertTrue(same_value(result, expected), result)
        return result[0]

    def test_small_programs(self):
        self.check(LAST, WORD, "last", ("",), ("r", 10 + 9 + 3, 100))
        self.check(LAST, WORD, "last", ("r",), ("r", 7, 100))
        self.check(LAST, None, "last", ("",), ("", 7, 20))
        self.check("fun f(): truth = no", T, "f", (), (False, 2, 2))
        self.check("fun f(): truth = yes fun g(x, y): place = y", T, "g", ("l", "lr"), ("lr", 2, 2 + 2 * 25))
        self.check("fun f(x): truth = has(x, b)", T, "f", ("l",), (True, 3, 15))

    def test_endless_calls(self):
        self.check("fun f(): truth = f()", None, "f", (), ("endless", 1, 4))
        self.check("fun f(x): truth = f(up(x))", T, "f", ("lr",), ("endless", 9, 40))
        self.check("fun f(x): truth = g(x) fun g(x): truth = not f(left(x))", T, "f", ("",))
        self.check("fun f(x): place = if empty(x) then f(x) else left(f(left(x)))", T, "f", ("",))
        self.check("fun f(x): place = if empty(x) then x else f(f(left(x)))", T, "f", ("",))

    def test_outcomes_of_both_kinds(self):
        text = "fun p(x): place = up(x) fun t(x): truth = empty(x)"
        found = {self.check(text, T, name, (place,)) for name in ("p", "t") for place in tree_parts(T)}
        self.assertEqual(found, {"", "l", True, False})

    def test_blanks_line_feeds_and_further_brackets(self):
        plain = "fun f(x): truth = if empty(x) or has(x, b) then not (no and f(x)) else f(left(x)) fun g(): place = top"
        expected = chain(plain, T, "f", ("",))
        for text in (plain.replace(" ", "\n"), plain.replace(" ", "   "), "\n\n  " + plain + " \n", plain.replace("empty(x)", "((empty((x))))"), plain.replace("f(left(x))", "((f((left(((x)))))))"),
                     plain.replace(" fun g", "\nfun g"), "fun f ( x ) : truth=if empty ( x )or has ( x ,b )then not(no and f(x))else f(left(x))fun g():place=top", written(read(plain)),
                     plain.replace("if empty", "(if empty").replace(" fun g", ") fun g")):
            self.assertEqual(chain(text, T, "f", ("",)), expected)
            self.check(text, T, "f", ("",))
        self.assertEqual(expected[0], True)

    def test_random_programs(self):
        maker, source = ProgramMaker(719, False), random.Random(727)
        counts = {}
        for size in range(200):
            program, tree = maker.program(1 + size % 4, 2, 1 + size % 5), small_trees()[size % 8]
            calls = all_calls(program, tree)
            for name, places in source.sample(calls, min(6, len(calls))):
                outcome = self.check(written(program), tree, name, places)
                key = outcome if outcome in (True, False, "endless") else "place"
                counts[key] = counts.get(key, 0) + 1
        self.assertGreater(min(counts[key] for key in (True, False, "endless", "place")), 30)

    def test_exponential_runs(self):
        text = "fun f(x): truth = if empty(x) then yes else f(right(x)) and f(right(x))"
        tree = tree_chain("r" * 40)
        self.assertEqual(run(read(text), tree, ("f", ("",)), "", 20000), ("cut",))
        outcome, rows, most = chain(text, tree, "f", ("",))
        self.assertIs(outcome, True)
        self.assertLess(rows, 2000)
        self.assertEqual(most, 3 * 13 * 81)


class Errors(unittest.TestCase):
    def test_bad_text(self):
        texts = ["fun", "f", "fun f(x): truth = empty(x", "fun f(x): truth = x y", LAST + " fun", LAST + ")", LAST.replace("place", "number"), "fun f(x); truth = yes", "fun f(x): truth = Yes"]
        for text in texts:
            word, name, at = outcome_of(read, text)
            self.assertEqual((word, name), ("raised", "BadText"))
            check_raises(self, "BadText", at, chain, text, WORD, "last", ("",))
            check_raises(self, "BadText", at, chain, text, ["a"], None, None)
        for thing in ODD_VALUES:
            if not isinstance(thing, str):
                check_raises(self, "BadText", -1, chain, thing, WORD, "last", ("",))

    def test_bad_program(self):
        for text in ("fun f(x): truth = x", "fun f(x): truth = g(x)", "fun f(x): truth = f()", "fun f(x, x): truth = yes", LAST + " " + LAST, "fun f(x): place = either(x, y)"):
            check_raises(self, "BadProgram", read(text), chain, text, WORD, "f", ("",))
            check_raises(self, "BadProgram", read(text), chain, text, ("a",), 0, 0)

    def test_choosing(self):
        text = LAST + " fun g(x): truth = either(yes, no) fun h(x): truth = either(yes, no)"
        check_raises(self, "Choosing", "g", chain, text, WORD, "last", ("",))
        check_raises(self, "Choosing", "g", chain, text, "tree", "last", None)

    def test_bad_tree(self):
        for thing in [("a",), ["a", None, None], ("A", None, None), "", 0, ("a", None, "b")]:
            check_raises(self, "BadTree", thing, chain, LAST, thing, "last", ("",))
            check_raises(self, "BadTree", thing, chain, LAST, thing, "f", "")

    def test_bad_call(self):
        for name in ["f", "x", "", "Last", None, 0, ("last",), ["last"], {}] + ODD_VALUES:
            check_raises(self, "BadCall", (name, ("",)), chain, LAST, WORD, name, ("",))
            check_raises(self, "BadCall", (name, ()), chain, "", WORD, name, ())
        for places in [(), ("", ""), [""], "", None, ("l", ), ("rrr",), (None,), (("",),)] + ODD_VALUES:
            if not same_value(places, ("l",)) and not same_value(places, ("",)):
                check_raises(self, "BadCall", ("last", places), chain, LAST, WORD, "last", places)

    def test_order(self):
        good = {"text": LAST, "tree": WORD, "name": "last", "places": ("r",)}
        rest = {"tree": (["a"], "BadTree", ["a"]), "name": ("g", "BadCall", ("g", ("r",)))}
        check_order(self, chain, good, {"text": ("fun last(x)", "BadText", 5), **rest})
        check_order(self, chain, good, {"text": (None, "BadText", -1), **rest})
        bad = "fun last(x): place = y"
        check_order(self, chain, good, {"text": (bad, "BadProgram", read(bad)), **rest})
        choosing = "fun last(x): place = either(x, x)"
        check_order(self, chain, good, {"text": (choosing, "Choosing", "last"), **rest})
        check_order(self, chain, good, {"tree": (["a"], "BadTree", ["a"]), "places": (["r"], "BadCall", ("last", ["r"]))})
