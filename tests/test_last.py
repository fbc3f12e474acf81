"""Last programs: points [10.1] and [10.2], and the heading "eyesonly/last.py"."""

import random
import unittest

from eyesonly.kinds import is_program
from eyesonly.last import is_last, judge_last, last_holds, run_last
from eyesonly.tables import answer
from eyesonly.texts import read
from tests.helpers import ODD_VALUES, chain, changed, check_order, check_raises, random_tree, same_value
from tests.programs import ProgramMaker, all_calls, small_trees
from tests.standings import LastMaker, last_by_words, run_last_by_words

T = ("a", ("b", None, None), None)
WORD = ("a", None, ("b", None, None))

# Each body with the path of the first call that is not at a last position, None if there is none. t is a function of the
# kind "truth", p one of the kind "place", both with one name; t2 has two.
TRUTHS = (
    ("t(x)", None), ("empty(x)", None), ("yes", None),
    ("if empty(x) then t(x) else no", None), ("if empty(x) then no else t(x)", None), ("if empty(x) then t(x) else t(x)", None),
    ("empty(x) and t(x)", None), ("empty(x) or t(x)", None), ("not empty(x) and t(up(x))", None),
    ("if yes then (no and t(x)) else (if no then t(x) else yes or (no or t(x)))", None),
    ("empty(x) and empty(x) and t(x)", None), ("empty(x) and (empty(x) or t(x))", None),
    ("if empty(x) then empty(x) and t(x) else empty(x) or (if yes then t(top) else no)", None),
    ("if t(x) then yes else no", (1,)), ("t(x) and yes", (1,)), ("t(x) or yes", (1,)), ("t(x) and t(x)", (1,)), ("t(x) or t(x)", (1,)),
    ("empty(x) and t(x) and yes", (1, 2)), ("empty(x) or t(x) or t(x)", (1, 2)), ("(empty(x) and t(x)) or t(x)", (1, 2)),
    ("not t(x)", (1,)), ("not not t(x)", (1, 1)), ("empty(x) and not t(x)", (2, 1)), ("not (empty(x) and t(x))", (1, 2)),
    ("not (if yes then t(x) else no)", (1, 2)), ("if not t(x) then no else t(x)", (1, 1)),
    ("same(p(x), x)", (1,)), ("same(x, p(x))", (2,)), ("has(p(x), a)", (1,)), ("empty(p(x))", (1,)), ("empty(left(p(x)))", (1, 1)),
    ("empty(if yes then p(x) else x)", (1, 2)), ("empty(if yes then x else p(x))", (1, 3)), ("empty(if t(x) then x else x)", (1, 1)),
    ("t(p(x))", (2, 0)), ("t2(x, p(x))", (2, 1)), ("t2(p(x), p(x))", (2, 0)), ("t2(x, up(p(x)))", (2, 1, 1)),
    ("t2(x, if t(x) then x else x)", (2, 1, 1)), ("if empty(x) then t(x) else t(p(x))", (3, 2, 0)), ("empty(x) and t(p(x))", (2, 2, 0)),
    ("if t(x) and yes then not t(x) else t(p(x))", (1, 1)),
)
PLACES = (
    ("p(x)", None), ("x", None), ("if empty(x) then p(x) else p(up(x))", None), ("if empty(x) then x else if empty(up(x)) then p(x) else x", None),
    ("left(p(x))", (1,)), ("right(p(x))", (1,)), ("up(p(x))", (1,)), ("left(if yes then p(x) else x)", (1, 2)), ("p(p(x))", (2, 0)),
    ("if t(x) then x else x", (1,)), ("if yes then x else left(p(x))", (3, 1)), ("p(if yes then x else p(x))", (2, 0, 3)),
)
OTHERS = " fun t(x): truth = yes fun t2(x, y): truth = yes fun p(x): place = x"
# The choice or the call that comes first decides.
CHOOSING = (
    ("fun f(x): truth = either(yes, no)", ("choice", "f", ())),
    ("fun f(x): truth = either(not f(x), no)", ("choice", "f", ())),
    ("fun f(x): truth = not either(yes, f(x))", ("choice", "f", (1,))),
    ("fun f(x): truth = not f(x) and either(yes, no)", ("within", "f", (1, 1))),
    ("fun f(x): truth = either(yes, no) and not f(x)", ("choice", "f", (1,))),
    ("fun f(x): truth = f(x) and either(yes, no)", ("within", "f", (1,))),
    ("fun f(x): truth = if empty(x) then either(yes, no) else not f(x)", ("choice", "f", (2,))),
    ("fun f(x): truth = if empty(x) then not f(x) else either(yes, no)", ("within", "f", (2, 1))),
    ("fun f(x): truth = f(either(x, top))", ("choice", "f", (2, 0))),
    ("fun f(x, y, z): truth = f(x, y, either(x, g(x))) fun g(x): place = x", ("choice", "f", (2, 2))),
    ("fun f(x, y, z): truth = f(x, g(x), either(x, g(x))) fun g(x): place = x", ("within", "f", (2, 1))),
    ("fun f(x): truth = f(x) fun g(x): truth = either(f(x), no) fun h(x): truth = not f(x)", ("choice", "g", ())),
    ("fun h(x): truth = not f(x) fun f(x): truth = f(x) fun g(x): truth = either(f(x), no)", ("within", "h", (1,))),
    ("fun b(x): truth = no or not b(x) fun a(x): truth = not b(x)", ("within", "b", (2, 1))),
)


class Judging(unittest.TestCase):
    def check(self, program, expected=None):
        found = judge_last(program)
        self.assertTrue(same_value(found, last_by_words(program)), (program, found))
        if expected:
            self.assertTrue(same_value(found, expected), (program, found))
        self.assertIs(last_holds(program, found), True)
        self.assertIs(is_last(program), found == ("last",))
        return found[0]

    def test_positions(self):
        for kind, bodies in (("truth", TRUTHS), ("place", PLACES)):
            for body, path in bodies:
                text = f"fun f(x): {kind} = {body}" + OTHERS
                self.check(read(text), ("within", "f", path) if path is not None else ("last",))

    def test_choices(self):
        for text, expected in CHOOSING:
            self.check(read(text), expected)

    def test_the_program_without_functions(self):
        self.check((), ("last",))

    def test_functions_come_in_their_order(self):
        good, bad = "fun {}(x): truth = t(x) ", "fun {}(x): truth = not t(x) "
        self.check(read(good.format("a") + bad.format("c") + bad.format("b") + OTHERS), ("within", "c", (1,)))
        self.check(read(bad.format("z") + good.format("a") + bad.format("b") + OTHERS), ("within", "z", (1,)))

    def test_paths_are_sorted_as_numbers_are(self):
        names = ", ".join("abcdefghijkl")
        terms = ", ".join(["a"] * 2 + ["p(a)"] + ["a"] * 7 + ["either(a, b)", "a"])
        self.check(read(f"fun f({names}): truth = f({terms})" + OTHERS), ("within", "f", (2, 2)))

    def test_random_programs(self):
        words = {}
        for choice in (False, True):
            maker = ProgramMaker(311, choice)
            for size in range(400):
                word = self.check(maker.program(1 + size % 4, size % 3, 1 + size % 5))
                words[word] = words.get(word, 0) + 1
        maker = LastMaker(313)
        for size in range(300):
            self.check(maker.program(1 + size % 4, size % 3, 1 + size % 4), ("last",))
        self.assertGreater(min(words["last"], words["choice"], words["within"]), 30)

    def test_deeply_nested(self):
        for before, behind in (("no or (", ")"), ("if yes then no else (", ")"), ("yes and (", ")")):
            self.check(read("fun f(x): truth = " + before * 24 + "f(x)" + behind * 24), ("last",))
        self.check(read("fun f(x): truth = " + "not " * 24 + "f(x)"), ("within", "f", (1,) * 24))
        self.check(read("fun f(x): truth = f(x)" + " and yes" * 24), ("within", "f", (1,) * 24))

    def test_many_functions(self):
        text = "".join(f"fun f{at}(x): truth = empty(x) or f{(at + 1) % 40}(up(x)) " for at in range(40))
        self.check(read(text), ("last",))


class Certificates(unittest.TestCase):
    LAST = read("fun f(x): truth = empty(x) or f(up(x))")
    WITHIN = read("fun g(x): truth = yes fun f(x): truth = if empty(x) then yes else not f(up(x))")
    CHOICE = read("fun g(x): place = left(either(x, top)) fun f(x): truth = not f(x)")

    def check(self, expected, program, thing):
        found = last_holds(program, thing)
        self.assertIs(found, expected, (program, thing))

    def test_there_is_exactly_one(self):
        papers = (("last",), ("within", "f", (3, 1)), ("choice", "g", (1,)))
        for program, right in zip((self.LAST, self.WITHIN, self.CHOICE), papers):
            for paper in papers:
                self.check(paper == right, program, paper)

    def test_parts_otherwise(self):
        for paper in (("within", "g", (3, 1)), ("within", "f", (3,)), ("within", "f", (3, 1, 1)), ("within", "f", (3, True)), ("within", "f", [3, 1]),
                      ("within", "f"), ("within", "f", (3, 1), ()), ["within", "f", (3, 1)], ("choice", "f", (3, 1)), ("within", "F", (3, 1)),
                      ("within", "f", 3), ("within", "f", "31"), ("within", "f", ()), ("within", ("f",), (3, 1)), ("last", "f", (3, 1))):
            self.check(False, self.WITHIN, paper)
        for paper in (("last", ()), ["last"], "last", (), ("LAST",), (("last",),), ("last", "last"), True, None):
            self.check(False, self.LAST, paper)
        for paper in (("choice", "g", (True,)), ("choice", "g", [1]), ("choice", "g", 1), ("choice", "g", (1,), None)):
            self.check(False, self.CHOICE, paper)

    def test_changed(self):
        for program in (self.LAST, self.WITHIN, self.CHOICE):
            right = judge_last(program)
            many = 0
            for thing in changed(right, ODD_VALUES):
                self.check(same_value(thing, right), program, thing)
                many += 1
            self.assertGreater(many, 100)

    def test_any_value(self):
        for thing in ODD_VALUES:
            for program in (self.LAST, self.WITHIN, self.CHOICE, ()):
                self.check(False, program, thing)
                for paper in (("within", thing, (3, 1)), ("within", "f", thing), ("choice", "g", (thing,)), ("choice", "g", thing), (thing,)):
                    self.check(same_value(paper, judge_last(program)), program, paper)


class Runs(unittest.TestCase):
    def check(self, program, tree, name, places, expected=None):
        found = run_last(program, tree, name, places)
        if expected:
            self.assertTrue(same_value(found, expected), (program, tree, name, places, found))
        else:
            self.assertTrue(same_value(found, run_last_by_words(program, tree, name, places)), (program, tree, name, places, found))
        whole = answer(program, tree, (name, places))
        self.assertTrue(same_value(whole, found[1] if found[0] == "given" else None))
        return found

    def test_calls_that_end_at_once(self):
        program = read("fun f(x): truth = empty(x) fun g(): place = left(top) fun h(x, y): place = if same(x, y) then x else up(y)")
        self.check(program, T, "f", ("r",), ("given", True, 1))
        self.check(program, T, "f", ("l",), ("given", False, 1))
        self.check(program, T, "g", (), ("given", "l", 1))
        self.check(program, None, "g", (), ("given", "", 1))
        self.check(program, T, "h", ("ll", "lr"), ("given", "l", 1))

    def test_calls_that_end_later(self):
        program = read("fun last(x): place = if empty(right(x)) then x else last(right(x)) fun odd(x): truth = not empty(x) and even(right(x)) "
                       "fun even(x): truth = empty(x) or odd(right(x))")
        for many in range(41):
            tree = chain("r" * many)
            self.check(program, tree, "last", ("",), ("given", "r" * max(many - 1, 0), max(many, 1)))
            self.check(program, tree, "odd", ("",), ("given", many % 2 == 1, many + 1))
            self.check(program, tree, "even", ("",), ("given", many % 2 == 0, many + 1))

    def test_rings_of_one_call(self):
        program = read("fun f(x): truth = f(x) fun g(x): truth = g(up(x)) fun h(): truth = h()")
        self.check(program, T, "f", ("l",), ("endless", ("f", ("l",)), 1))
        self.check(program, None, "f", ("",), ("endless", ("f", ("",)), 1))
        self.check(program, T, "h", (), ("endless", ("h", ()), 1))
        for place in ("", "l", "lr"):
            self.check(program, T, "g", (place,), ("endless", ("g", ("",)), 1))

    def test_rings_of_several_calls(self):
        program = read("fun a(x): truth = b(left(x)) fun b(x): truth = c(x) fun c(x): truth = a(up(x)) fun in1(x): truth = in2(x) "
                       "fun in2(x): truth = empty(x) or b(x)")
        self.check(program, T, "a", ("",), ("endless", ("a", ("",)), 3))
        self.check(program, T, "b", ("l",), ("endless", ("b", ("l",)), 3))
        self.check(program, T, "c", ("l",), ("endless", ("c", ("l",)), 3))
        self.check(program, T, "b", ("ll",), ("endless", ("b", ("ll",)), 3))
        self.check(program, T, "a", ("ll",), ("endless", ("b", ("ll",)), 3))
        # The ring is led into from outside; the asked call does not come again.
        self.check(program, T, "in1", ("l",), ("endless", ("b", ("l",)), 3))
        self.check(program, T, "in1", ("",), ("endless", ("a", ("",)), 3))
        self.check(program, T, "in1", ("r",), ("given", True, 2))

    def test_a_ring_after_many_calls(self):
        program = read("fun down(x): truth = if empty(x) then ring(x) else down(right(x)) fun ring(x): truth = if empty(x) then ring(up(x)) else ring(right(x))")
        for many in (1, 5, 40):
            tree = chain("r" * many)
            self.check(program, tree, "down", ("",), ("endless", ("ring", ("r" * many,)), 2))
        self.check(program, None, "down", ("",), ("endless", ("ring", ("",)), 1))

    def test_random_programs(self):
        maker, source = LastMaker(317), random.Random(331)
        found = {}
        for size in range(500):
            program, tree = maker.program(1 + size % 4, 1 + size % 3, 1 + size % 3), small_trees()[size % 8]
            calls = all_calls(program, tree)
            for name, places in source.sample(calls, min(8, len(calls))):
                word, _, many = self.check(program, tree, name, places)
                found[word, many > 2] = found.get((word, many > 2), 0) + 1
        self.assertEqual(len(found), 4)
        self.assertGreater(min(found.values()), 20)

    def test_thousands_of_standing_calls(self):
        # Each pair of places comes once, the second one going through all places for each first one.
        program = read("fun pairs(x, y): truth = if empty(y) then rise(x, y) else pairs(x, left(y)) "
                       "fun rise(x, y): truth = if same(y, top) then outer(x, y) else if same(y, left(up(y))) then pairs(x, right(up(y))) else rise(x, up(y)) "
                       "fun outer(x, y): truth = if empty(x) then outrise(x, y) else pairs(left(x), y) "
                       "fun outrise(x, y): truth = if same(x, top) then yes else if same(x, left(up(x))) then pairs(right(up(x)), y) else outrise(up(x), y)")
        source = random.Random(337)
        for nodes in (1, 5, 12, 17):
            tree = random_tree(source, nodes)
            found = self.check(program, tree, "pairs", ("", ""))
            self.assertEqual(found[:2], ("given", True))
            # Besides the pairs, each empty place leads upwards again, and every second place is empty.
            m = 2 * nodes + 1
            self.assertGreater(found[2], m * m)
        self.assertGreater(found[2], 2000)
        ring = read("fun pairs(x, y): truth = if empty(y) then (if empty(x) then pairs(top, top) else pairs(right(x), top)) else pairs(x, right(y))")
        self.check(ring, chain("r" * 40), "pairs", ("", ""), ("endless", ("pairs", ("", "")), 41 * 41))
        self.check(ring, chain("r" * 40), "pairs", ("r", "l"), ("endless", ("pairs", ("rr", "")), 41 * 41))

    def test_outcomes_of_both_kinds(self):
        program = read("fun f(x): truth = if empty(x) then no else f(left(x)) fun g(x): place = if empty(x) then x else g(left(x))")
        self.check(program, chain("lll"), "f", ("",), ("given", False, 4))
        self.check(program, chain("lll"), "g", ("",), ("given", "lll", 4))


class Errors(unittest.TestCase):
    LAST = read("fun f(x): truth = empty(x) or f(up(x)) fun g(): place = top")

    def test_bad_program(self):
        for thing in ODD_VALUES + [read("fun f(x): truth = g(x)"), read("fun f(x): truth = x")]:
            if not is_program(thing):
                check_raises(self, "BadProgram", thing, judge_last, thing)
                check_raises(self, "BadProgram", thing, is_last, thing)
                check_raises(self, "BadProgram", thing, last_holds, thing, ("last",))
                check_raises(self, "BadProgram", thing, run_last, thing, T, "f", ("",))

    def test_not_last(self):
        for text, paper in CHOOSING:
            program = read(text)
            check_raises(self, "NotLast", paper, run_last, program, T, program[0][1], ("",) * len(program[0][3]))
            check_raises(self, "NotLast", paper, run_last, program, ("a", None), None, None)

    def test_bad_call(self):
        for name in ["h", "F", "", "x", None, 0, ["f"], ("f",), {"f": 1}] + ODD_VALUES:
            if name != "f":
                check_raises(self, "BadCall", (name, ("",)), run_last, self.LAST, T, name, ("",))
        for places in [("rr",), (), ("", ""), [""], "", None, (None,), ("x",), ((),), (("",),)] + ODD_VALUES:
            if places not in ((""), ("",), ("r",), ("l",)) or not isinstance(places, tuple):
                check_raises(self, "BadCall", ("f", places), run_last, self.LAST, T, "f", places)
        check_raises(self, "BadCall", ("g", ("",)), run_last, self.LAST, T, "g", ("",))
        self.assertEqual(run_last(self.LAST, T, "g", ()), ("given", "", 1))

    def test_order(self):
        good = {"program": self.LAST, "tree": T, "name": "f", "places": ("l",)}
        check_order(self, run_last, good, {"program": (None, "BadProgram", None), "tree": (["a"], "BadTree", ["a"]), "name": ("h", "BadCall", ("h", ("l",)))})
        check_order(self, run_last, good, {"tree": (("a",), "BadTree", ("a",)), "places": (["l"], "BadCall", ("f", ["l"]))})
        within = read("fun f(x): truth = not f(x)")
        wrong = {"program": (within, "NotLast", ("within", "f", (1,))), "tree": (1, "BadTree", 1), "places": ("l", "BadCall", ("f", "l"))}
        check_order(self, run_last, good, wrong)
