"""Lots, reached calls and answers: points [5.1], [5.2] and [5.3], and what the guarantee [0.3] says of them."""

import unittest

from eyesonly.kinds import has_choice, is_program
from eyesonly.meaning import is_call, run
from eyesonly.tables import answer, lot, reached
from eyesonly.texts import read
from eyesonly.trees import is_tree
from tests.helpers import ODD_VALUES, chain, check_order, check_raises, same_value
from tests.lots import Lots
from tests.programs import ProgramMaker, all_calls, small_trees, tree_parts

T = ("a", ("b", None, None), None)


def outcomes(program, tree, call, most, fuel):
    """The outcomes of all runs with at most so many picks, and whether these were all runs."""
    found, whole, waiting = set(), True, [""]
    while waiting:
        picks = waiting.pop()
        result = run(program, tree, call, picks, fuel)
        if result[0] == "outcome":
            found.add(result[1])
        elif result[0] == "cut" or len(picks) == most:
            whole = False
        else:
            waiting += [picks + "l", picks + "r"]
    return found, whole


class Tables(unittest.TestCase):
    def check(self, program, tree, call, values, calls=None):
        found = lot(program, tree, call)
        self.assertTrue(same_value(found, tuple(sorted(values))), (program, tree, call, found))
        if calls is not None:
            self.assertEqual(reached(program, tree, call), tuple(sorted(calls)))
        if not has_choice(program):
            expected = found[0] if found else None
            self.assertTrue(same_value(answer(program, tree, call), expected))

    def test_against_the_rules_said_once_more(self):
        trees = small_trees()
        sizes = set()
        for choice in (False, True):
            maker = ProgramMaker(43, choice)
            for size in range(160):
                program = maker.program(1 + size % 4, 2, 1 + size % 5)
                tree = trees[size % (len(trees) if size % 2 else 4)]
                lots = Lots(program, tree)
                for call in list(lots.lots)[::4]:
                    calls = lots.reached(call)
                    self.check(program, tree, call, lots.lots[call], calls)
                    sizes.add((choice, min(len(lots.lots[call]), 3), len(calls) > 10))
        self.assertGreaterEqual(len(sizes), 10)

    def test_lots_hold_the_outcomes_of_all_runs(self):
        whole_ones = 0
        for choice in (False, True):
            maker = ProgramMaker(47, choice)
            for size in range(80):
                program = maker.program(1 + size % 3, 1 + size % 2, 2 + size % 3)
                tree = small_trees()[size % 4]
                for call in all_calls(program, tree)[::5]:
                    found, whole = outcomes(program, tree, call, 5, 300)
                    values = lot(program, tree, call)
                    self.assertLessEqual(found, set(values))
                    if whole:
                        self.assertEqual(sorted(found), list(values))
                        whole_ones += 1
        self.assertGreater(whole_ones, 100)

    def test_each_value_of_a_lot_is_the_outcome_of_some_run(self):
        programs = [
            "fun f(x): place = either(x, either(f(left(x)), f(right(x))))",
            "fun f(x): place = either(x, f(up(x)))",
            "fun f(x): truth = either(empty(x), f(left(x)) and f(right(x)))",
            "fun f(x): truth = same(g(x), g(up(x))) fun g(x): place = if empty(x) then x else either(g(left(x)), right(x))",
            "fun f(x): truth = either(f(x), either(not f(x), yes))",
            "fun f(x): place = g(either(x, up(x)), either(left(x), x)) fun g(x, y): place = either(x, if same(x, y) then g(y, left(x)) else y)",
            "fun f(x): truth = f(x) or either(f(x), no)",
            "fun f(x): place = if either(has(x, a), no) then left(x) else if either(yes, empty(f(x))) then x else f(x)",
        ]
        for text in programs:
            program = read(text)
            for tree in small_trees()[:4]:
                for call in all_calls(program, tree)[:12]:
                    found, _ = outcomes(program, tree, call, 9, 200)
                    self.assertEqual(sorted(found), list(lot(program, tree, call)), (text, tree, call))

    def test_answers_are_those_of_the_plain_runs(self):
        endless = ended = 0
        maker = ProgramMaker(53, False)
        for size in range(250):
            program = maker.program(1 + size % 3, 2, 1 + size % 5)
            tree = small_trees()[size % 8]
            for call in all_calls(program, tree)[::4]:
                result = run(program, tree, call, "", 1500)
                found = answer(program, tree, call)
                if result[0] == "outcome":
                    self.assertTrue(same_value(found, result[1]))
                    ended += 1
                elif found is None:
                    endless += 1
                else:
                    longer = run(program, tree, call, "", 10 ** 6)
                    self.assertTrue(same_value(found, longer[1]))
        self.assertGreater(min(endless, ended), 100)

    def test_an_exponential_run(self):
        program = read("fun f(x): truth = if empty(x) then yes else f(right(x)) and f(right(x)) fun g(x): truth = not f(x) or g(x)")
        tree = chain("r" * 40)
        self.assertEqual(run(program, tree, ("f", ("",)), "", 20000), ("cut",))
        calls = [("f", ("r" * many,)) for many in range(41)]
        self.check(program, tree, ("f", ("",)), [True], calls)
        self.check(program, tree, ("g", ("r",)), [], calls[1:] + [("g", ("r",))])

    def test_calls_that_wait_for_themselves(self):
        for body, kind, values in (
            ("f(x)", "truth", []), ("not f(x)", "truth", []), ("f(x)", "place", []), ("left(f(x))", "place", []),
            ("either(f(x), yes)", "truth", [True]), ("either(not f(x), yes)", "truth", [False, True]),
            ("f(x) and no", "truth", []), ("no and f(x)", "truth", [False]),
            ("f(x) or either(no, f(x))", "truth", []), ("if f(x) then yes else yes", "truth", []),
        ):
            program = read(f"fun f(x): {kind} = {body}")
            self.check(program, T, ("f", ("l",)), values, [("f", ("l",))])
        program = read("fun f(x): place = either(x, left(f(x)))")
        self.check(program, T, ("f", ("",)), ["", "l", "ll"], [("f", ("",))])
        self.check(program, T, ("f", ("ll",)), ["ll"], [("f", ("ll",))])

    def test_rings(self):
        program = read("fun f(x): truth = g(up(x)) fun g(x): truth = h(left(x)) fun h(x): truth = not f(x)")
        calls = [("f", ("l",)), ("g", ("",)), ("h", ("l",))]
        for call in calls:
            self.check(program, T, call, [], calls)
        self.check(program, T, ("f", ("ll",)), [], [("f", ("ll",)), ("g", ("l",)), ("h", ("ll",))])
        program = read("fun f(x): place = either(g(x), x) fun g(x): place = h(up(x)) fun h(x): place = either(f(left(x)), right(x))")
        calls = [("f", ("l",)), ("g", ("l",)), ("h", ("",))]
        for call in calls:
            self.check(program, T, call, ["l", "r"], calls)

    def test_what_is_decided_demands_nothing_further(self):
        cases = [
            ("no and e(x)", [False], []), ("yes or e(x)", [True], []), ("yes and e(x)", [], ["e"]), ("no or e(x)", [], ["e"]),
            ("if yes then no else e(x)", [False], []), ("if no then e(x) else yes", [True], []),
            ("if yes then e(x) else d(x)", [], ["e"]), ("if e(x) then d(x) else d(x)", [], ["e"]),
            ("d(x) and e(x)", [False], ["d"]), ("not d(x) or e(x)", [True], ["d"]), ("e(x) and d(x)", [], ["e"]),
            ("e(x) or d(x)", [], ["e"]), ("if d(x) then e(x) else d(up(x))", [False], ["d", "dtop"]),
            # Both terms of a "same", and all terms of a "call", are always asked.
            ("same(p(x), q(x))", [], ["p", "q"]), ("same(q(x), p(x))", [], ["p", "q"]), ("two(p(x), q(x))", [], ["p", "q"]),
            ("two(q(x), p(x))", [], ["p", "q"]), ("two(q(x), q(x))", [False], ["q", "two"]),
        ]
        more = (
            " fun e(x): truth = e(x) fun d(x): truth = no fun p(x): place = p(x) fun q(x): place = x "
            "fun two(x, y): truth = no"
        )
        for body, values, demanded in cases:
            program = read("fun f(x): truth = " + body + more)
            calls = [("f", ("l",))]
            for name in demanded:
                calls.append({"dtop": ("d", ("",)), "two": ("two", ("l", "l"))}.get(name, (name, ("l",))))
            self.check(program, T, ("f", ("l",)), values, calls)

    def test_choice_decides_both_ways(self):
        program = read("fun f(x): truth = either(yes, no) and g(x) fun g(x): truth = empty(x) "
                       "fun h(x): place = if either(yes, no) then k(x) else k(up(x)) fun k(x): place = x "
                       "fun m(x): truth = g(either(x, up(x))) or same(either(x, top), k(x)) fun n(): truth = either(no, no)")
        self.check(program, T, ("f", ("lr",)), [False, True], [("f", ("lr",)), ("g", ("lr",))])
        self.check(program, T, ("f", ("l",)), [False], [("f", ("l",)), ("g", ("l",))])
        self.check(program, T, ("h", ("lr",)), ["l", "lr"], [("h", ("lr",)), ("k", ("lr",)), ("k", ("l",))])
        calls = [("m", ("lr",)), ("g", ("lr",)), ("g", ("l",)), ("k", ("lr",))]
        self.check(program, T, ("m", ("lr",)), [False, True], calls)
        self.check(program, T, ("n", ()), [False], [("n", ())])

    def test_functions_of_several_names(self):
        program = read("fun f(x, y, z): place = if same(x, y) then g(z, y) else f(x, up(y), left(z)) fun g(x, y): place = x")
        calls = [("f", ("", "lr", "")), ("f", ("", "l", "l")), ("f", ("", "", "ll")), ("g", ("ll", ""))]
        self.check(program, T, calls[0], ["ll"], calls)
        self.check(program, T, ("f", ("r", "l", "lr")), [], [("f", ("r", "l", "lr")), ("f", ("r", "", "lr"))])
        program = read("fun f(x, y): place = either(x, either(y, f(y, up(x)))) fun c(): place = f(left(left(top)), right(top))")
        self.check(program, T, ("c", ()), ["", "l", "ll", "r"])
        self.check(program, None, ("c", ()), [""], [("c", ()), ("f", ("", ""))])

    def test_a_chain_of_thousands_of_calls(self):
        program = read("fun f(x, y, z): truth = if not empty(y) then not not f(x, right(y), z) "
                       "else if not empty(x) then not not f(right(x), top, z) "
                       "else if same(z, top) then not f(top, top, left(top)) else yes")
        tree = chain("r" * 40)
        call = ("f", ("", "", ""))
        self.assertIs(answer(program, tree, call), False)
        self.assertEqual(len(reached(program, tree, call)), 41 * 41 * 2)
        ring = (program[0][:4] + (with_last(program[0][4], ("call", "f", (("top",),) * 3)),),)
        self.assertIs(answer(ring, tree, call), None)
        self.assertEqual(lot(ring, tree, call), ())
        self.assertEqual(len(reached(ring, tree, call)), 41 * 41 * 2)

    def test_large_lots(self):
        tree = chain("lr" * 20)
        everywhere = sorted(tree_parts(tree))
        program = read("fun f(x): place = either(x, either(f(left(x)), either(f(right(x)), f(up(x)))))"
                       " fun g(x): place = either(x, g(f(x))) fun h(x): truth = same(f(x), g(up(x)))")
        self.check(program, tree, ("f", ("lr",)), everywhere, [("f", (place,)) for place in everywhere])
        self.check(program, tree, ("g", ("",)), everywhere, [(name, (place,)) for name in "fg" for place in everywhere])
        self.check(program, tree, ("h", ("",)), [False, True])


def with_last(term, last):
    """An if whose last term, behind every else, is another one."""
    return term[:3] + (with_last(term[3], last) if term[0] == "if" and term[3][0] == "if" else last,)


class TableErrors(unittest.TestCase):
    PROGRAM = read("fun f(x): truth = empty(x) fun c(): place = top")
    CHOOSING = read("fun f(x): truth = empty(x) fun g(x): place = left(either(x, x)) fun e(): truth = either(no, no)")

    def test_order(self):
        unfit = read("fun f(x): truth = x")
        for function in (lot, reached, answer):
            good = {"program": self.PROGRAM, "tree": T, "call": ("f", ("l",))}
            wrong = {
                "program": (unfit, "BadProgram", unfit), "tree": (["a"], "BadTree", ["a"]),
                "call": (("f", ("rr",)), "BadCall", ("f", ("rr",))),
            }
            check_order(self, function, good, wrong)

    def test_choosing_comes_behind_bad_program(self):
        wrong = {
            "program": (self.CHOOSING, "Choosing", "g"), "tree": (["a"], "BadTree", ["a"]), "call": ("f", "BadCall", "f"),
        }
        check_order(self, answer, {"program": self.PROGRAM, "tree": T, "call": ("f", ("l",))}, wrong)
        unfit = read("fun f(x): place = either(y, x)")
        check_raises(self, "BadProgram", unfit, answer, unfit, None, ("f", ("",)))
        check_raises(self, "Choosing", "e", answer, self.CHOOSING[:1] + self.CHOOSING[2:], T, ("f", ("",)))
        self.assertEqual(lot(self.CHOOSING, T, ("f", ("l",))), (False,))
        self.assertEqual(reached(self.CHOOSING, T, ("f", ("l",))), (("f", ("l",)),))

    def test_each_wrong_argument(self):
        for function in (lot, reached, answer):
            for thing in ODD_VALUES + [("f", ["l"]), ("f", ("l", "l")), ("c", ("",)), ["f", ("l",)], ("g", ("l",))]:
                if not is_program(thing):
                    check_raises(self, "BadProgram", thing, function, thing, T, ("f", ("l",)))
                if not is_tree(thing):
                    check_raises(self, "BadTree", thing, function, self.PROGRAM, thing, ("f", ("l",)))
                if not is_call(self.PROGRAM, T, thing):
                    check_raises(self, "BadCall", thing, function, self.PROGRAM, T, thing)
