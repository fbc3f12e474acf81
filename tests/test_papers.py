"""Certificates for outcomes: point [5.4], and what the guarantee [0.3] says of them."""

import random
import time
import unittest

from eyesonly.meaning import is_call
from eyesonly.kinds import is_program
from eyesonly.papers import judge_outcome, outcome_holds
from eyesonly.tables import lot, reached
from eyesonly.texts import read
from eyesonly.trees import is_tree
from tests.helpers import FEW_ODD_VALUES, ODD_VALUES, chain, check_changed, check_order, check_raises
from tests.lots import Lots, Papers
from tests.programs import ProgramMaker, all_calls, small_trees, tree_parts

T = ("a", ("b", None, None), None)
DOWN = read("fun f(x): truth = if empty(x) then yes else f(left(x)) fun g(x): truth = f(x) and not f(up(x)) "
            "fun r(x): truth = r(up(x)) fun p(x): place = if empty(x) then x else p(right(x))")
CHOICE = read("fun f(x): place = either(x, f(up(x))) fun g(x): truth = either(same(f(x), x), no) fun c(): place = f(left(left(top)))")
ODD_ENTRIES = [None, True, 0, -1, "", "l", ("f", ("",)), (), ["f", ("",)], {"f": 1}]


def some_values(program, tree, call):
    """Each value of the kind of the function of a call."""
    kind = [function[2] for function in program if function[1] == call[0]][0]
    return sorted(tree_parts(tree)) if kind == "place" else [False, True]


class OutcomeCertificates(unittest.TestCase):
    def holds(self, program, call, value, thing, tree=T):
        found = outcome_holds(program, tree, call, value, thing)
        self.assertIsInstance(found, bool)
        self.assertEqual(found, Papers(program, tree).is_outcome_paper(call, value, thing), (call, value, thing))
        return found

    def test_random_programs(self):
        words = {}
        for choice in (False, True):
            maker = ProgramMaker(61, choice)
            for size in range(90):
                program = maker.program(1 + size % 4, 2, 1 + size % 5)
                tree = small_trees()[size % (8 if size % 2 else 4)]
                lots = Lots(program, tree)
                papers = Papers(program, tree)
                for call in list(lots.lots)[::9]:
                    for value in some_values(program, tree, call)[:4]:
                        paper = judge_outcome(program, tree, call, value)
                        self.assertEqual(paper[0], "table" if value in lots.lots[call] else "closed")
                        self.assertTrue(papers.is_outcome_paper(call, value, paper), (program, tree, call, value, paper))
                        self.assertIs(outcome_holds(program, tree, call, value, paper), True)
                        words[choice, paper[0], len(paper[1]) > 2] = True
        self.assertEqual(len(words), 8)

    def test_each_kind_of_term_over_calls_with_several_values(self):
        more = (" fun d(x): truth = either(yes, no) fun e(x): truth = either(no, empty(x)) fun p(x): place = either(x, up(x))"
                " fun q(x): place = either(left(x), top) fun k(x, y): place = either(x, y)")
        words = {}
        for kind, bodies in (
            ("truth", ("d(x) and e(x)", "e(x) and d(x)", "d(x) or e(x)", "e(x) or d(x)", "not d(x)", "if d(x) then e(x) else d(up(x))",
                       "if e(x) then e(left(x)) else d(x)", "either(e(x), d(x))", "either(d(x), e(x))", "same(p(x), q(x))", "same(q(x), q(x))",
                       "empty(p(x))", "has(q(x), a)", "d(x) and (e(x) or d(x))", "(d(x) or e(x)) and e(x)", "same(p(x), left(q(x)))")),
            ("place", ("left(p(x))", "right(q(x))", "up(p(x))", "k(p(x), q(x))", "k(q(x), p(x))", "if d(x) then p(x) else q(x)",
                       "if e(x) then p(x) else q(x)", "either(p(x), q(x))", "p(q(p(x)))", "left(k(p(x), up(q(x))))")),
        ):
            for body in bodies:
                program = read(f"fun f(x): {kind} = " + body + more)
                for call in (("f", ("l",)), ("f", ("lr",))):
                    for value in some_values(program, T, call):
                        paper = judge_outcome(program, T, call, value)
                        self.assertTrue(self.holds(program, call, value, paper), (body, value, paper))
                        words[body] = words.get(body, 0) + (paper[0] == "table")
        self.assertGreaterEqual(min(words.values()), 2, words)

    def test_changed_certificates(self):
        questions = [
            (DOWN, ("f", ("",)), True), (DOWN, ("f", ("l",)), False), (DOWN, ("r", ("l",)), True), (DOWN, ("p", ("",)), "r"),
            (DOWN, ("p", ("l",)), ""), (CHOICE, ("f", ("l",)), ""), (CHOICE, ("f", ("l",)), "r"), (CHOICE, ("g", ("l",)), False),
            (CHOICE, ("g", ("l",)), True),
        ]
        papers = [(*question, judge_outcome(question[0], T, *question[1:])) for question in questions]
        check_changed(self, self.holds, papers, ODD_ENTRIES)

    def test_any_value(self):
        for thing in ODD_VALUES:
            for program, call, value in ((DOWN, ("f", ("",)), True), (CHOICE, ("c", ()), "r")):
                self.assertIs(outcome_holds(program, T, call, value, thing), False)
                for word in ("table", "closed"):
                    self.assertIs(outcome_holds(program, T, call, value, (word, thing)), False)
                    self.assertIs(outcome_holds(program, T, call, value, (word, (thing,))), False)

    def test_the_form(self):
        call = ("f", ("ll",))
        entries = ((call, True, 0),)
        self.assertTrue(self.holds(DOWN, call, True, ("table", entries)))
        for thing in (
            ("table", entries, ()), ("table",), ["table", entries], ("table", list(entries)), ("tables", entries), ("closed", entries),
            ("table", ([call, True, 0],)), ("table", ((call, True),)), ("table", ((call, True, 0, 0),)), ("table", ()),
            ("table", (((call[0], list(call[1])), True, 0),)), ("table", ((list(call), True, 0),)), (True, entries), entries,
        ):
            self.assertFalse(self.holds(DOWN, call, True, thing))
        lots = ((call, (True,)),)
        self.assertTrue(self.holds(DOWN, call, False, ("closed", lots)))
        for thing in (
            ("closed", lots, ()), ("closed",), ["closed", lots], ("closed", list(lots)), ("close", lots), ("table", lots),
            ("closed", ([call, (True,)],)), ("closed", ((call,),)), ("closed", ((call, (True,), ()),)), ("closed", ()),
            ("closed", ((call, [True]),)), ("closed", ((call, True),)), lots,
        ):
            self.assertFalse(self.holds(DOWN, call, False, thing))

    def test_only_one_word_for_each_value(self):
        source = random.Random(67)
        found = {}
        for program in (DOWN, CHOICE):
            lots = Lots(program, T)
            calls = sorted(lots.lots)
            for turn in range(4000):
                call = source.choice(calls)
                value = source.choice(some_values(program, T, call))
                picked = source.sample(lots.reached(call), len(lots.reached(call)) - source.choice((0, 0, 0, 1)) or 1)
                picked += source.sample(calls, source.choice((0, 0, 1)))
                if turn % 2:
                    given = [(other, tuple(sorted(self.near(source, program, other, lots.lots[other])))) for other in picked]
                    thing = ("closed", tuple(given))
                else:
                    given = [(other, known, source.randrange(4)) for other in picked for known in lots.lots[other]]
                    thing = ("table", tuple(given))
                if self.holds(program, call, value, thing):
                    self.assertEqual(thing[0] == "table", value in lots.lots[call])
                    found[thing[0], value in lots.lots[call]] = found.get((thing[0], value in lots.lots[call]), 0) + 1
        self.assertEqual(sorted(found), [("closed", False), ("table", True)])
        self.assertGreater(min(found.values()), 60)

    def near(self, source, program, call, values):
        """A lot, mostly the right one."""
        some = [value for value in some_values(program, T, call) if source.random() < 0.1]
        return set(some) ^ values if source.random() < 0.2 else values

    def test_any_value_beyond_the_kind_is_an_error(self):
        for value in ODD_VALUES:
            for call, fits in ((("f", ("",)), value is True or value is False), (("p", ("",)), value in ("", "l", "r", "lr"))):
                for function, more in ((judge_outcome, ()), (outcome_holds, (None,))):
                    if fits:
                        function(DOWN, T, call, value, *more)
                    else:
                        check_raises(self, "BadValue", value, function, DOWN, T, call, value, *more)

    def test_values_that_equal_others(self):
        call = ("f", ("ll",))
        self.assertFalse(self.holds(DOWN, call, True, ("table", ((call, 1, 0),))))
        self.assertFalse(self.holds(DOWN, call, False, ("closed", ((call, (1,)),))))
        self.assertFalse(self.holds(DOWN, call, True, ("table", ((call, True, False),))))
        self.assertFalse(self.holds(DOWN, call, True, ("table", ((call, True, True),))))


class Tables(unittest.TestCase):
    """Each clause for ("table", entries) broken by itself."""

    CALL = ("f", ("",))
    ENTRIES = ((("f", ("ll",)), True, 0), (("f", ("l",)), True, 1), (("f", ("",)), True, 2))

    def check(self, expected, entries, value=True, call=CALL, program=DOWN):
        thing = ("table", tuple(entries))
        self.assertIs(outcome_holds(program, T, call, value, thing), expected, thing)
        self.assertEqual(Papers(program, T).is_outcome_paper(call, value, thing), expected, thing)

    def ranked(self, *ranks):
        return [entry[:2] + (rank,) for entry, rank in zip(self.ENTRIES, ranks)]

    def test_entries_left_out(self):
        self.check(True, self.ENTRIES)
        for at in range(3):
            self.check(False, self.ENTRIES[:at] + self.ENTRIES[at + 1:])

    def test_ranks(self):
        for ranks in ((0, 1, 2), (3, 5, 10 ** 39), (0, 7, 8)):
            self.check(True, self.ranked(*ranks))
        for ranks in ((0, 0, 1), (0, 1, 1), (1, 0, 2), (0, 2, 1), (2, 1, 0), (0, 0, 0), (-1, 0, 1), (0, 1, -1), (0, True, 2),
                      (False, 1, 2), (0, 1, None), (0, 1, "2"), (0, 1, (2,))):
            self.check(False, self.ranked(*ranks))

    def test_the_order_of_entries_is_free(self):
        self.check(True, self.ENTRIES[::-1])
        self.check(True, self.ENTRIES[1:] + self.ENTRIES[:1])

    def test_values_that_do_not_follow(self):
        for at in range(3):
            for value in (False, "", "l", 1, None, ("yes",)):
                wrong = (self.ENTRIES[at][0], value, self.ENTRIES[at][2])
                self.check(False, self.ENTRIES[:at] + (wrong,) + self.ENTRIES[at + 1:])
        for value in ("l", "rr", True, False, None, 0):
            self.check(False, [(("p", ("r",)), value, 0)], "r", ("p", ("r",)))
        self.check(True, [(("p", ("r",)), "r", 0)], "r", ("p", ("r",)))
        # One entry that does not follow is enough, wherever it is.
        self.check(False, self.ENTRIES + ((("r", ("",)), True, 3),))
        self.check(False, self.ENTRIES + ((("r", ("",)), True, 3), (("r", ("",)), True, 2)))
        self.check(True, self.ENTRIES + ((("p", ("r",)), "r", 3),))

    def test_the_asked_call_and_value(self):
        self.check(False, self.ENTRIES, False)
        self.check(False, self.ENTRIES, True, ("f", ("r",)))
        self.check(True, self.ENTRIES, True, ("f", ("l",)))
        self.check(False, [(("p", ("ll",)), "ll", 0), (("f", ("ll",)), True, 0)], "ll", ("p", ("l",)))

    def test_calls_that_are_none(self):
        for call in (("f", ("rr",)), ("f", ()), ("f", ("", "")), ("h", ("",)), ("f", [""]), ["f", ("",)], ("f",), None, "f",
                     ("f", ("",), ()), (("f",), ("",)), ("f", (None,)), ("f", (True,)), (["f"], ("",)), ("f", (["l"],))):
            self.check(False, self.ENTRIES + ((call, True, 5),))

    def test_the_same_entry_twice(self):
        self.check(True, self.ENTRIES + self.ENTRIES)
        self.check(True, self.ENTRIES + tuple(self.ranked(4, 4, 9)))
        # Here the second entries do not come in time.
        self.check(False, self.ENTRIES[1:] + tuple(self.ranked(4, 4, 9)))

    def test_several_values_for_one_call(self):
        entries = [(("f", ("",)), "", 0), (("f", ("l",)), "l", 0), (("f", ("l",)), "", 1), (("g", ("l",)), True, 2), (("g", ("l",)), False, 2)]
        self.check(True, entries, "", ("f", ("l",)), CHOICE)
        self.check(True, entries, "l", ("f", ("l",)), CHOICE)
        self.check(True, entries, False, ("g", ("l",)), CHOICE)
        self.check(False, [(call, value, 0) for call, value, _ in entries], "", ("f", ("l",)), CHOICE)
        # A lesser rank alone counts, also for another value of the same call.
        again = read("fun f(x): place = either(x, up(f(x)))")
        self.check(True, [(("f", ("ll",)), "ll", 0), (("f", ("ll",)), "l", 1), (("f", ("ll",)), "", 2)], "", ("f", ("ll",)), again)
        self.check(False, [(("f", ("ll",)), "ll", 0), (("f", ("ll",)), "l", 1), (("f", ("ll",)), "", 1)], "", ("f", ("ll",)), again)


class Closed(unittest.TestCase):
    """Each clause for ("closed", entries) broken by itself."""

    CALL = ("f", ("",))
    ENTRIES = ((("f", ("",)), (True,)), (("f", ("l",)), (True,)), (("f", ("ll",)), (True,)))

    def check(self, expected, entries, value=False, call=CALL, program=DOWN):
        thing = ("closed", tuple(entries))
        self.assertIs(outcome_holds(program, T, call, value, thing), expected, thing)
        self.assertEqual(Papers(program, T).is_outcome_paper(call, value, thing), expected, thing)

    def test_entries_left_out(self):
        self.check(True, self.ENTRIES)
        self.check(True, self.ENTRIES[::-1])
        for at in range(3):
            self.check(False, self.ENTRIES[:at] + self.ENTRIES[at + 1:])
        self.check(True, self.ENTRIES[1:], False, ("f", ("l",)))

    def test_a_call_twice(self):
        for at in range(3):
            self.check(False, self.ENTRIES + self.ENTRIES[at:at + 1])
            self.check(False, self.ENTRIES + ((self.ENTRIES[at][0], (False, True)),))

    def test_lots_that_are_none(self):
        for at in range(3):
            for lot_passed in ((True, False), (True, True), (False, False), (False, True, True), [True], True, None, (1,), ("",), (None,), ((),)):
                self.check(False, self.ENTRIES[:at] + ((self.ENTRIES[at][0], lot_passed),) + self.ENTRIES[at + 1:])
        call = ("p", ("r",))
        for lot_passed, expected in ((("r",), True), (("l", "r"), True), (("", "l", "ll", "r"), True), (("r", "l"), False), (("r", "r"), False),
                                     (("r", "rr"), False), (("r", True), False), ((True, "r"), False), (("", ["r"]), False)):
            self.check(expected, [(call, lot_passed)], "lr", call)

    def test_the_asked_value(self):
        self.check(False, self.ENTRIES, True)
        self.check(False, ((("f", ("",)), (False, True)),) + self.ENTRIES[1:])
        # Other lots may have more than the least ones.
        self.check(False, self.ENTRIES[:2] + ((("f", ("ll",)), (False, True)),))
        self.check(True, ((("r", ("",)), (True,)),), False, ("r", ("",)))
        self.check(True, ((("r", ("",)), (False,)),), True, ("r", ("",)))
        self.check(True, ((("r", ("",)), ()),), True, ("r", ("",)))
        self.check(False, ((("r", ("",)), (False, True)),), True, ("r", ("",)))
        self.check(True, ((("r", ("",)), (True,)), (("r", ("l",)), (True,))), False, ("r", ("l",)))
        self.check(False, ((("r", ("",)), (True,)), (("r", ("l",)), ())), False, ("r", ("l",)))

    def test_lots_that_are_not_closed(self):
        for at in range(3):
            self.check(False, self.ENTRIES[:at] + ((self.ENTRIES[at][0], ()),) + self.ENTRIES[at + 1:])
        self.check(False, self.ENTRIES + ((("p", ("r",)), ()),))
        self.check(True, self.ENTRIES + ((("p", ("r",)), ("r",)),))
        self.check(False, self.ENTRIES + ((("p", ("",)), ("",)),))
        self.check(True, self.ENTRIES + ((("p", ("",)), ()), (("p", ("r",)), ("r",)),)[1:])

    def test_demanded_calls_without_entries(self):
        program = read("fun f(x): truth = g(x) and no fun g(x): truth = e(x) or h(x) fun h(x): truth = no fun e(x): truth = no")
        entries = [((name, ("l",)), (False,)) for name in "fgeh"]
        self.check(True, entries, True, ("f", ("l",)), program)
        for at in range(4):
            self.check(False, entries[:at] + entries[at + 1:], True, ("f", ("l",)), program)
        # h is only demanded if e has False, and nothing where a lot is ().
        self.check(False, [entries[0], entries[1], (("e", ("l",)), ())], True, ("f", ("l",)), program)
        program = read("fun f(x): truth = e(x) or h(x) fun h(x): truth = no fun e(x): truth = e(x)")
        self.check(True, [(("f", ("l",)), ()), (("e", ("l",)), ())], True, ("f", ("l",)), program)

    def test_calls_that_are_none(self):
        for call in (("f", ("rr",)), ("f", ()), ("h", ("",)), ("f", [""]), ["f", ("",)], ("f",), None, "f", (["f"], ("",))):
            self.check(False, self.ENTRIES + ((call, (True,)),))
            self.check(False, self.ENTRIES + ((call, ()),))


class Limits(unittest.TestCase):
    def check_both(self, program, tree, call, value, most):
        paper = judge_outcome(program, tree, call, value)
        self.assertIs(outcome_holds(program, tree, call, value, paper), True)
        self.assertLessEqual(len(paper[1]), most)
        return paper[0]

    def test_a_chain_of_thousands_of_calls(self):
        program = read("fun f(x, y, z): truth = if not empty(y) then not not f(x, right(y), z) "
                       "else if not empty(x) then not not f(right(x), top, z) "
                       "else if same(z, top) then not f(top, top, left(top)) else yes")
        tree = chain("r" * 40)
        call = ("f", ("", "", ""))
        self.assertEqual(self.check_both(program, tree, call, False, 3362), "table")
        self.assertEqual(self.check_both(program, tree, call, True, 3362), "closed")

    def test_large_lots(self):
        tree = chain("lr" * 20)
        program = read("fun f(x): place = either(x, either(f(left(x)), either(f(right(x)), f(up(x)))))"
                       " fun g(x): place = either(x, g(f(x))) fun h(x): truth = same(f(x), g(up(x)))")
        # Only what a value follows from is in its certificate.
        self.assertEqual(self.check_both(program, tree, ("g", ("",)), "lr" * 20, 400), "table")
        self.assertEqual(self.check_both(program, tree, ("h", ("",)), False, 400), "table")
        down = read("fun f(x): place = either(x, either(f(left(x)), f(right(x))))")
        self.assertEqual(self.check_both(down, tree, ("f", ("lrlr",)), "lrl", 400), "closed")

    def test_lots_that_name_far_more_calls_than_have_entries(self):
        tree = chain("lr" * 20)
        everywhere = tuple(sorted(tree_parts(tree)))
        program = read("fun f(x): place = either(x, f(left(x))) fun g(a, b, c, d, e): truth = same(a, b)"
                       " fun h(x): truth = g(f(x), f(x), f(x), f(x), f(x)) fun n(x): truth = no")
        begun = time.monotonic()
        lots = tuple((("f", (place,)), everywhere) for place in everywhere) + ((("h", ("",)), (False, True)), (("n", ("",)), (False,)))
        self.assertIs(outcome_holds(program, tree, ("n", ("",)), True, ("closed", lots)), False)
        self.assertIs(outcome_holds(program, tree, ("n", ("",)), True, ("closed", lots[:-2] + lots[-1:])), True)
        self.assertIs(outcome_holds(program, tree, ("n", ("",)), True, ("closed", lots[-1:])), True)
        places = ["l" + "rl" * many for many in range(10)]
        entries = tuple((("f", (place,)), place, 0) for place in places)
        entries += (((("g"), ("l", "l", "l", "l", "l")), True, 0), (("h", ("l",)), True, 1), (("n", ("",)), False, 0))
        self.assertIs(outcome_holds(program, tree, ("n", ("",)), False, ("table", entries)), True)
        self.assertIs(outcome_holds(program, tree, ("h", ("l",)), True, ("table", entries)), True)
        self.assertIs(outcome_holds(program, tree, ("h", ("l",)), True, ("table", entries[1:])), False)
        wide = read("fun f(x): place = either(x, f(up(x))) fun g(a, b, c, d, e): truth = same(a, b)"
                    " fun h(x): truth = g(f(x), f(x), f(x), f(x), f(x))")
        deep = "lr" * 20
        entries = tuple((("f", (deep[:low],)), deep[:high], low - high) for low in range(41) for high in range(low + 1))
        entries += ((("g", ("l", "", "l", deep[:7], deep[:9])), False, 0), (("h", (deep[:30],)), False, 50))
        self.assertIs(outcome_holds(wide, tree, ("h", (deep[:30],)), False, ("table", entries)), True)
        self.assertIs(outcome_holds(wide, tree, ("h", (deep[:30],)), False, ("table", entries[:-2] + entries[-1:])), False)
        # A call of another function with such places is none of them.
        others = read("fun f(x): place = either(x, f(up(x))) fun g(a, b, c, d, e): truth = same(a, b)"
                      " fun h(x): truth = g(f(x), f(x), f(x), f(x), f(x)) fun k(a, b, c, d, e): truth = not same(a, b)")
        entries = entries[:-2] + ((("k", ("l", "", "l", deep[:7], deep[:9])), True, 0), (("h", (deep[:30],)), True, 50))
        self.assertIs(outcome_holds(others, tree, ("k", entries[-2][0][1]), True, ("table", entries[:-1])), True)
        self.assertIs(outcome_holds(others, tree, ("h", (deep[:30],)), True, ("table", entries)), False)
        # Nor is one with a place that is not among those of the term at its position.
        for place, expected in ((deep[:30], True), (deep[:31], False)):
            entries = entries[:-2] + ((("g", ("l", "l", "", place, "")), True, 0), (("h", (deep[:30],)), True, 50))
            self.assertIs(outcome_holds(wide, tree, ("h", (deep[:30],)), True, ("table", entries)), expected)
        self.assertLess(time.monotonic() - begun, 20)

    def test_reached_calls_are_within_the_entries(self):
        for call in all_calls(DOWN, T):
            for value in some_values(DOWN, T, call):
                paper = judge_outcome(DOWN, T, call, value)
                self.assertLessEqual({entry[0] for entry in paper[1]}, set(reached(DOWN, T, call)))
                self.assertEqual(paper[0] == "table", value in lot(DOWN, T, call))


class Errors(unittest.TestCase):
    def test_order(self):
        unfit = read("fun f(x): truth = x")
        good = {"program": DOWN, "tree": T, "call": ("f", ("l",)), "value": True}
        wrong = {
            "program": (unfit, "BadProgram", unfit), "tree": (["a"], "BadTree", ["a"]), "call": (("f", ("rr",)), "BadCall", ("f", ("rr",))),
            "value": (1, "BadValue", 1),
        }
        check_order(self, judge_outcome, good, {name: wrong[name] for name in ("program", "tree", "call")})
        check_order(self, outcome_holds, {**good, "thing": None}, {name: wrong[name] for name in ("program", "tree", "call")})
        self.check_value_last(judge_outcome, good, wrong)
        self.check_value_last(outcome_holds, {**good, "thing": None}, wrong)

    def check_value_last(self, function, good, wrong):
        check_raises(self, "BadValue", 1, function, **{**good, "value": 1})
        for name in ("program", "tree", "call"):
            check_raises(self, wrong[name][1], wrong[name][2], function, **{**good, name: wrong[name][0], "value": 1})

    def test_each_wrong_argument(self):
        for thing in ODD_VALUES + [("f", ["l"]), ("f", ("l", "l")), ["f", ("l",)], ("h", ("l",))]:
            if not is_program(thing):
                check_raises(self, "BadProgram", thing, judge_outcome, thing, T, ("f", ("l",)), True)
                check_raises(self, "BadProgram", thing, outcome_holds, thing, T, ("f", ("l",)), True, None)
            if not is_tree(thing):
                check_raises(self, "BadTree", thing, judge_outcome, DOWN, thing, ("f", ("l",)), True)
                check_raises(self, "BadTree", thing, outcome_holds, DOWN, thing, ("f", ("l",)), True, None)
            if not is_call(DOWN, T, thing):
                check_raises(self, "BadCall", thing, judge_outcome, DOWN, T, thing, True)
                check_raises(self, "BadCall", thing, outcome_holds, DOWN, T, thing, True, None)

    def test_programs_with_choice_are_fine(self):
        self.assertEqual(judge_outcome(CHOICE, T, ("c", ()), "l")[0], "table")
        self.assertEqual(judge_outcome(CHOICE, T, ("c", ()), "r")[0], "closed")
        for thing in FEW_ODD_VALUES:
            self.assertIs(outcome_holds(CHOICE, T, ("c", ()), "l", thing), False)
