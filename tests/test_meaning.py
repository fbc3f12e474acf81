"""Calls and plain runs: points [4.1] and [4.2]."""

import unittest

from eyesonly.kinds import is_program
from eyesonly.meaning import is_call, run
from eyesonly.texts import read
from eyesonly.trees import is_tree
from tests.helpers import FEW_ODD_VALUES, ODD_VALUES, chain, changed, check_order, check_raises, same_value
from tests.programs import ProgramMaker, all_calls, moved, small_trees, tree_parts

T = ("a", ("b", None, None), None)


class Ended(Exception):
    """A run comes to its end before its outcome."""

    def __init__(self, result):
        self.result = result


class PlainRun:
    """[4.2], said once more."""

    def __init__(self, program, tree, picks, fuel):
        self.functions = {function[1]: function for function in program}
        self.parts = tree_parts(tree)
        self.picks = list(picks)
        self.fuel = fuel
        self.steps = 0

    def result(self, call):
        try:
            value = self.called(*call)
        except Ended as ended:
            return ended.result
        return ("outcome", value, self.steps)

    def called(self, name, places):
        _, _, _, names, body = self.functions[name]
        return self.value(body, dict(zip(names, places)))

    def value(self, term, names):
        self.steps += 1
        if self.steps > self.fuel:
            raise Ended(("cut",))
        word = term[0]
        if word == "call":
            return self.called(term[1], tuple([self.value(part, names) for part in term[2]]))
        if word == "either":
            if not self.picks:
                raise Ended(("open", self.steps))
            return self.value(term[1 if self.picks.pop(0) == "l" else 2], names)
        if word in ("name", "top", "yes", "no"):
            return {"name": names.get(term[-1]), "top": "", "yes": True, "no": False}[word]
        first = self.value(term[1], names)
        if word == "if":
            return self.value(term[2] if first else term[3], names)
        if word == "and":
            return self.value(term[2], names) if first else False
        if word == "or":
            return True if first else self.value(term[2], names)
        if word == "same":
            return self.value(term[2], names) == first
        if word == "not":
            return not first
        part = self.parts[first]
        if word == "empty":
            return part is None
        if word == "has":
            return part is not None and part[0] == term[2]
        return moved(self.parts, first, word)


def term_run(text, picks="", fuel=100, place="", tree=T, kind=None):
    """The run of a program whose first function has one name, x, and this body; f and g may be called."""
    more = " fun f(x): truth = empty(x) fun g(x, y): place = y fun c(): place = top"
    for body_kind in (kind,) if kind else ("place", "truth"):
        program = read(f"fun main(x): {body_kind} = {text}" + more)
        if is_program(program):
            return run(program, tree, ("main", (place,)), picks, fuel)
    raise AssertionError("no program: " + text)


class Runs(unittest.TestCase):
    def check(self, text, value, steps, **more):
        found = term_run(text, **more)
        self.assertTrue(same_value(found, ("outcome", value, steps)), (text, more, found))

    def test_places(self):
        for place, lefts, rights, ups in (("", "l", "r", ""), ("l", "ll", "lr", ""), ("ll", "ll", "ll", "l"), ("r", "r", "r", "")):
            self.check("x", place, 1, place=place)
            self.check("top", "", 1, place=place)
            self.check("left(x)", lefts, 2, place=place)
            self.check("right(x)", rights, 2, place=place)
            self.check("up(x)", ups, 2, place=place)
        self.check("left(top)", "", 2, tree=None)
        self.check("up(right(left(x)))", "l", 4)

    def test_truths(self):
        self.check("yes", True, 1)
        self.check("no", False, 1)
        self.check("not yes", False, 2)
        self.check("not not yes", True, 3)
        for place, tag, empty in (("", "a", False), ("l", "b", False), ("ll", None, True), ("r", None, True)):
            for other in ("a", "b", "c"):
                self.check(f"has(x, {other})", tag == other, 2, place=place)
            self.check("empty(x)", empty, 2, place=place)
            self.check("same(x, left(top))", place == "l", 4, place=place)
        self.check("same(left(x), top)", False, 4)

    def test_what_is_not_evaluated_takes_no_step(self):
        self.check("no and empty(x)", False, 2)
        self.check("yes and empty(x)", False, 4)
        self.check("yes and yes", True, 3)
        self.check("yes or empty(x)", True, 2)
        self.check("no or empty(x)", False, 4)
        self.check("no or yes", True, 3)
        self.check("if yes then x else left(left(left(x)))", "", 3)
        self.check("if no then x else left(x)", "l", 4)
        self.check("if empty(x) then no else yes", True, 4)
        self.check("no and yes and yes", False, 3)
        self.check("yes or no or no", True, 3)

    def test_what_is_not_evaluated_takes_no_pick(self):
        self.check("no and either(yes, no)", False, 2)
        self.check("yes or either(yes, no)", True, 2)
        self.check("if yes then x else either(x, top)", "", 3)
        self.check("if no then either(x, top) else left(x)", "l", 4)
        self.check("(no and either(yes, no)) or either(yes, no)", False, 5, picks="r")

    def test_calls(self):
        self.check("f(x)", False, 4)
        self.check("f(left(right(x)))", True, 6)
        self.check("g(left(x), right(x))", "r", 6)
        self.check("g(x, g(right(x), left(x)))", "l", 9)
        self.check("c()", "", 2)
        self.check("g(left(c()), x)", "", 6, place="")
        self.check("f(c())", False, 5)

    def test_values_of_calls_from_left_to_right(self):
        text = "g(either(left(x), right(x)), either(x, left(x)))"
        self.check(text, "", 7, picks="ll")
        self.check(text, "l", 8, picks="lr")
        self.check(text, "", 7, picks="rl")
        self.check("same(either(x, left(x)), either(right(x), x))", True, 5, picks="lr")
        self.check("same(either(x, left(x)), either(right(x), x))", False, 7, picks="rl")

    def test_picks(self):
        self.check("either(yes, no)", True, 2, picks="l")
        self.check("either(yes, no)", False, 2, picks="r")
        self.check("either(yes, no)", True, 2, picks="lrrr")
        self.check("either(either(x, left(x)), top)", "l", 4, picks="lr")
        self.check("either(either(x, left(x)), top)", "", 2, picks="rl")
        self.check("yes", True, 1, picks="lrlr")
        self.assertEqual(term_run("either(yes, no)", ""), ("open", 1))
        self.assertEqual(term_run("either(either(x, left(x)), top)", "l"), ("open", 2))
        self.assertEqual(term_run("not (yes and either(yes, no))"), ("open", 4))
        self.assertEqual(term_run("g(either(x, x), either(x, x))", "l"), ("open", 4))
        self.check("either(yes, no)", True, 2, picks="l" * 60)

    def test_fuel(self):
        for text, picks in (("f(x)", ""), ("g(left(x), g(x, x))", ""), ("either(x, left(x))", "r"), ("yes", "")):
            _, value, steps = term_run(text, picks)
            for fuel in range(steps + 3):
                expected = ("outcome", value, steps) if fuel >= steps else ("cut",)
                self.assertEqual(term_run(text, picks, fuel), expected)

    def test_open_beyond_the_fuel_is_cut(self):
        for text, at in (("either(yes, no)", 1), ("not (yes and either(yes, no))", 4)):
            for fuel in range(at + 3):
                self.assertEqual(term_run(text, "", fuel), ("open", at) if fuel >= at else ("cut",))

    def test_endless_runs(self):
        for text in ("ever(up(x))", "not ever(x)", "ever(x) and no", "yes and ever(x)", "if ever(x) then yes else no"):
            program = read("fun ever(x): truth = " + text)
            for fuel in (0, 1, 2, 77, 20000):
                self.assertEqual(run(program, T, ("ever", ("l",)), "", fuel), ("cut",))
        program = read("fun ever(x): place = either(x, left(ever(x)))")
        self.assertEqual(run(program, T, ("ever", ("",)), "r" * 60, 20000), ("open", 1 + 4 * 60))
        self.assertEqual(run(program, T, ("ever", ("",)), "r" * 59 + "l", 20000), ("outcome", "ll", 2 + 4 * 59))
        self.assertEqual(run(program, T, ("ever", ("",)), "rl", 6), ("outcome", "l", 6))

    def test_thousands_of_calls_one_within_another(self):
        program = read("fun f(x, y): truth = if not empty(y) then not not f(x, right(y)) "
                       "else if not empty(x) then not not f(right(x), top) else yes")
        tree = chain("r" * 40)
        kind, value, steps = run(program, tree, ("f", ("", "")), "", 40000)
        self.assertEqual((kind, value), ("outcome", True))
        self.assertEqual(run(program, tree, ("f", ("", "")), "", steps), ("outcome", True, steps))
        self.assertEqual(run(program, tree, ("f", ("", "")), "", steps - 1), ("cut",))
        # For each of 41 places of x there are 40 calls that go on with y; 40 calls go on with x; the last one ends.
        go_on, next_x, end = 4 + 3 + 3, 4 + 4 + 3 + 3, 4 + 4 + 1
        self.assertEqual(steps, 41 * 40 * go_on + 40 * next_x + end)

    def test_against_the_rules_said_once_more(self):
        trees = small_trees()
        kinds = set()
        for choice in (False, True):
            maker = ProgramMaker(41, choice)
            for size in range(150):
                program = maker.program(1 + size % 3, 2, 1 + size % 5)
                tree = trees[size % len(trees)]
                for call in all_calls(program, tree)[::3]:
                    for picks, fuel in (("", 120), ("lr", 120), ("rrlrl", 200), ("llllllllllll", 17), ("rlrlrlrlrlrlr", 60)):
                        expected = PlainRun(program, tree, picks, fuel).result(call)
                        found = run(program, tree, call, picks, fuel)
                        self.assertTrue(same_value(found, expected), (program, tree, call, picks, fuel, found, expected))
                        kinds.add((found[0], found[0] == "outcome" and found[2] > 20))
        self.assertEqual(len(kinds), 4)


class Calls(unittest.TestCase):
    PROGRAM = read("fun f(x): truth = empty(x) fun g(x, y): place = y fun c(): place = top")

    def test_is_call(self):
        for tree in small_trees():
            known = all_calls(self.PROGRAM, tree)
            for call in known:
                self.assertIs(is_call(self.PROGRAM, tree, call), True)
                name, places = call
                for other in ((name, places + ("",)), (name, places[:-1]), ("h", places), (name, places[:-1] + ("rlrlrl",))):
                    self.assertIs(is_call(self.PROGRAM, tree, other), other in known)
        self.assertIs(is_call(thing=("c", ()), tree=None, program=self.PROGRAM), True)
        self.assertIs(is_call((), None, ("c", ())), False)

    def test_is_call_of_any_value(self):
        known = all_calls(self.PROGRAM, T)
        for call in (("f", ("lr",)), ("g", ("l", "")), ("c", ())):
            for thing in ODD_VALUES + list(changed(call, FEW_ODD_VALUES + ["f", "g", "c", "l", "ll", ("",), ("", "")])):
                expected = isinstance(thing, tuple) and any(same_value(thing, call) for call in known)
                self.assertIs(is_call(self.PROGRAM, T, thing), expected, thing)
        for thing in (["f", ("",)], ("f", [""]), ("f", ""), ("f", "l"), ("c", ""), ("f", (None,)), "f", ("f",), ("c", (), ())):
            self.assertIs(is_call(self.PROGRAM, T, thing), False)

    def test_errors(self):
        good = {"program": self.PROGRAM, "tree": T, "call": ("f", ("l",)), "picks": "", "fuel": 10}
        unfit = read("fun f(x): truth = x")
        wrong = {
            "program": (unfit, "BadProgram", unfit), "tree": (("a", None), "BadTree", ("a", None)),
            "call": (("f", ("rr",)), "BadCall", ("f", ("rr",))), "picks": ("lx", "BadPicks", "lx"),
            "fuel": (-1, "BadNumber", -1),
        }
        check_order(self, run, good, wrong)
        del good["call"], good["picks"], good["fuel"], wrong["call"], wrong["picks"], wrong["fuel"]
        check_order(self, is_call, {**good, "thing": None}, wrong)

    def test_each_wrong_argument(self):
        call = ("f", ("l",))
        for thing in ODD_VALUES:
            if not is_program(thing):
                check_raises(self, "BadProgram", thing, run, thing, T, call, "", 10)
                check_raises(self, "BadProgram", thing, is_call, thing, T, call)
            if not is_tree(thing):
                check_raises(self, "BadTree", thing, run, self.PROGRAM, thing, call, "", 10)
                check_raises(self, "BadTree", thing, is_call, self.PROGRAM, thing, call)
            if thing != ("f", ("",)):
                check_raises(self, "BadCall", thing, run, self.PROGRAM, T, thing, "", 10)
            if not (isinstance(thing, str) and set(thing) <= {"l", "r"}):
                check_raises(self, "BadPicks", thing, run, self.PROGRAM, T, call, thing, 10)
            if isinstance(thing, bool) or not isinstance(thing, int) or thing < 0:
                check_raises(self, "BadNumber", thing, run, self.PROGRAM, T, call, "", thing)
        for picks in ("L", "lr ", "l,r", ("l", "r"), ["l"], "\n", "lrlrx"):
            check_raises(self, "BadPicks", picks, run, self.PROGRAM, T, call, picks, 10)
        self.assertEqual(run(self.PROGRAM, T, ("c", ()), "", 10 ** 6), ("outcome", "", 1))
