"""Certificates for the end of runs: point [5.5], and what the guarantee [0.3] says of them."""

import random
import unittest

from eyesonly.kinds import is_program
from eyesonly.meaning import is_call, run
from eyesonly.papers import end_holds, judge_end
from eyesonly.tables import answer
from eyesonly.texts import read
from eyesonly.trees import is_tree
from tests.helpers import ODD_VALUES, chain, check_changed, check_order, check_raises, same_value
from tests.lots import Lots, Papers
from tests.programs import ProgramMaker, all_calls, small_trees

T = ("a", ("b", None, None), None)
RINGS = read("fun lead(x): truth = here(x) and into(x, up(x)) fun into(x, y): truth = not one(y) "
             "fun one(x): truth = two(up(x)) fun two(x): truth = yes and three(left(x)) fun three(x): truth = not one(x) "
             "fun here(x): truth = not empty(x) fun far(x): place = if empty(x) then x else far(right(x)) "
             "fun self(x): truth = here(top) and self(x)")
ODD_ENTRIES = [None, True, 0, -1, "", "l", ("one", ("l",)), (), ["one", ("l",)]]


class Ends(unittest.TestCase):
    def holds(self, program, call, thing, tree=T):
        found = end_holds(program, tree, call, thing)
        self.assertIsInstance(found, bool)
        self.assertEqual(found, Papers(program, tree).is_end_paper(call, thing), (call, thing))
        return found

    def test_random_programs(self):
        words = {}
        maker = ProgramMaker(71, False)
        for size in range(200):
            program = maker.program(1 + size % 4, 2, 1 + size % 5)
            tree = small_trees()[size % (8 if size % 2 else 4)]
            lots = Lots(program, tree)
            papers = Papers(program, tree)
            for call in list(lots.lots)[::5]:
                paper = judge_end(program, tree, call)
                self.assertEqual(paper[0], "given" if lots.lots[call] else "endless")
                if paper[0] == "given":
                    self.assertEqual([paper[1]], sorted(lots.lots[call]))
                    self.assertTrue(same_value(paper[1], answer(program, tree, call)))
                else:
                    self.assertEqual(run(program, tree, call, "", 1000), ("cut",))
                self.assertTrue(papers.is_end_paper(call, paper), (program, tree, call, paper))
                self.assertIs(end_holds(program, tree, call, paper), True)
                key = (paper[0], len(paper[2]) > 1)
                words[key] = words.get(key, 0) + 1
        self.assertEqual(len(words), 4)
        self.assertGreater(min(words.values()), 20)

    def test_changed_certificates(self):
        calls = (("lead", ("",)), ("lead", ("l",)), ("one", ("l",)), ("two", ("",)), ("far", ("",)), ("self", ("r",)), ("here", ("r",)))
        check_changed(self, self.holds, [(RINGS, call, judge_end(RINGS, T, call)) for call in calls], ODD_ENTRIES)

    def test_any_value(self):
        for thing in ODD_VALUES:
            for call in (("one", ("l",)), ("far", ("",))):
                self.assertIs(end_holds(RINGS, T, call, thing), False)
                for paper in (("given", thing, ()), ("given", True, thing), ("given", True, (thing,)), ("endless", thing, (call,)),
                              ("endless", (thing,), (call,)), ("endless", (), thing), ("endless", (), (call, thing)),
                              ("endless", (), (thing,)), ("given", "r", ((call, thing, 0),))):
                    self.assertIs(end_holds(RINGS, T, call, paper), False, paper)

    def test_never_both(self):
        source = random.Random(73)
        found = {}
        lots = Lots(RINGS, T)
        calls = sorted(lots.lots)
        for turn in range(4000):
            call = source.choice(calls)
            picked = source.sample(lots.reached(call), source.randrange(len(lots.reached(call)) + 1))
            entries = tuple((other, value, source.randrange(3)) for other in picked for value in lots.lots[other])
            if turn % 2:
                thing = ("given", source.choice((True, False, "", "r")), entries)
            else:
                ring = [call] + source.sample(lots.reached(call), source.randrange(min(4, len(lots.reached(call)) + 1)))
                thing = ("endless", entries, tuple(ring))
            if self.holds(RINGS, call, thing):
                self.assertEqual(thing[0] == "given", bool(lots.lots[call]))
                found[thing[0]] = found.get(thing[0], 0) + 1
        self.assertGreater(min(found["given"], found["endless"]), 20)


class Given(unittest.TestCase):
    """Each clause for ("given", value, entries) broken by itself."""

    CALL = ("far", ("",))
    ENTRIES = ((("far", ("r",)), "r", 0), (("far", ("",)), "r", 1))

    def check(self, expected, thing, call=CALL):
        self.assertIs(end_holds(RINGS, T, call, thing), expected, thing)
        self.assertEqual(Papers(RINGS, T).is_end_paper(call, thing), expected, thing)

    def test_it_holds(self):
        self.check(True, ("given", "r", self.ENTRIES))
        self.check(True, ("given", "r", self.ENTRIES[::-1]))
        self.check(True, ("given", "r", self.ENTRIES + ((("here", ("",)), True, 0),)))

    def test_the_form(self):
        for thing in (("given", "r"), ("given", "r", self.ENTRIES, ()), ["given", "r", self.ENTRIES], ("given", self.ENTRIES, "r"),
                      ("table", "r", self.ENTRIES), ("table", self.ENTRIES), ("endless", self.ENTRIES, "r"), ("given", "r", list(self.ENTRIES))):
            self.check(False, thing)

    def test_the_value(self):
        for value in ("", "l", "rr", True, False, None, ("r",)):
            self.check(False, ("given", value, self.ENTRIES))
        here = (("here", ("r",)), False, 0)
        self.check(True, ("given", False, (here,)), here[0])
        for value in (0, True, "", None):
            self.check(False, ("given", value, (here,)), here[0])
        self.check(False, ("given", 0, ((here[0], 0, 0),)), here[0])

    def test_two_entries_with_the_same_call(self):
        self.check(False, ("given", "r", self.ENTRIES + self.ENTRIES[:1]))
        self.check(False, ("given", "r", self.ENTRIES + self.ENTRIES[1:]))
        self.check(False, ("given", "r", self.ENTRIES + ((("far", ("r",)), "r", 7),)))

    def test_entries_and_ranks(self):
        self.check(False, ("given", "r", self.ENTRIES[1:]))
        self.check(False, ("given", "r", self.ENTRIES[:1]))
        self.check(False, ("given", "r", ()))
        for low, high in ((0, 0), (1, 0), (-1, 0), (0, True), (False, 1), (0, None)):
            self.check(False, ("given", "r", ((("far", ("r",)), "r", low), (("far", ("",)), "r", high))))
        self.check(False, ("given", "r", self.ENTRIES + ((("one", ("r",)), True, 5),)))
        self.check(False, ("given", "r", self.ENTRIES + ((("one", ("rr",)), True, 5),)))


class Endless(unittest.TestCase):
    """Each clause for ("endless", entries, calls) broken by itself."""

    CALL = ("one", ("l",))
    RING = (("one", ("l",)), ("two", ("",)), ("three", ("l",)))
    LEAD = (("lead", ("",)), ("into", ("", "")), ("one", ("",)), ("two", ("",)), ("three", ("l",)), ("one", ("l",)))
    HERE = ((("here", ("",)), True, 0),)

    def check(self, expected, entries, calls, call=CALL):
        thing = ("endless", entries, calls)
        self.assertIs(end_holds(RINGS, T, call, thing), expected, thing)
        self.assertEqual(Papers(RINGS, T).is_end_paper(call, thing), expected, thing)

    def test_it_holds(self):
        self.check(True, (), self.RING)
        self.check(True, self.HERE, self.RING)
        self.check(True, self.HERE, self.LEAD, ("lead", ("",)))
        self.check(True, (((("here", ("",)), True, 9)), (("far", ("r",)), "r", 0)), self.LEAD, ("lead", ("",)))

    def test_the_form(self):
        for thing in (("endless", ()), ("endless", (), self.RING, ()), ["endless", (), self.RING], ("endless", self.RING, ()),
                      ("given", (), self.RING), ("endless", [], self.RING), ("endless", (), list(self.RING)), ("closed", (), self.RING),
                      ("endless", (), ([*self.RING[0]], *self.RING[1:])), ("endless", (), self.RING[0]), ("endless", None, self.RING)):
            self.assertIs(end_holds(RINGS, T, self.CALL, thing), False, thing)

    def test_calls_that_wait_for_themselves(self):
        call = ("self", ("l",))
        self.check(True, self.HERE, (call,), call)
        self.check(False, (), (call,), call)
        self.check(False, self.HERE, (call, call), call)
        # Without an entry it is stuck at a call that is not stuck.
        self.check(False, (), (call, ("here", ("",))), call)

    def test_calls_without_items(self):
        self.check(False, (), ())
        self.check(False, self.HERE, (), ("lead", ("",)))

    def test_a_ring_that_begins_at_another_call(self):
        self.check(False, (), self.RING[1:] + self.RING[:1])
        self.check(True, (), self.RING[1:] + self.RING[:1], self.RING[1])
        self.check(False, (), self.RING, self.RING[2])
        self.check(False, self.HERE, self.LEAD[1:], ("lead", ("",)))

    def test_a_call_of_the_ring_twice(self):
        self.check(False, (), self.RING + self.RING[:1])
        self.check(False, (), self.RING + self.RING)
        self.check(False, (), self.RING[:2] + self.RING[1:])
        self.check(False, self.HERE, self.LEAD + self.LEAD[3:], ("lead", ("",)))

    def test_a_call_of_the_ring_left_out(self):
        for at in range(3):
            self.check(False, (), self.RING[:at] + self.RING[at + 1:])
        for at in range(6):
            self.check(False, self.HERE, self.LEAD[:at] + self.LEAD[at + 1:], ("lead", ("",)))

    def test_the_last_call_is_stuck_at_some_call_of_the_ring(self):
        # Here it is stuck at the third one.
        self.check(True, self.HERE, self.LEAD, ("lead", ("",)))
        for many in range(1, 6):
            self.check(False, self.HERE, self.LEAD[:many], ("lead", ("",)))
        self.check(False, (), self.RING[:2])
        self.check(False, (), self.RING[:1])

    def test_calls_in_another_order(self):
        self.check(False, (), (self.RING[0], self.RING[2], self.RING[1]))
        self.check(False, self.HERE, self.LEAD[:1] + self.LEAD[:0:-1], ("lead", ("",)))

    def test_a_call_of_the_ring_that_has_an_entry(self):
        for call in self.RING:
            for value in (False, True):
                self.check(False, ((call, value, 0),), self.RING)
        program = read("fun f(x): truth = g(x) fun g(x): truth = yes")
        for entries, ring in (((), (("f", ("",)),)), (((("g", ("",)), True, 0),), (("f", ("",)),)), ((), (("f", ("",)), ("g", ("",))))):
            self.assertIs(end_holds(program, T, ("f", ("",)), ("endless", entries, ring)), False)

    def test_entries(self):
        call = ("lead", ("",))
        self.check(False, (), self.LEAD, call)
        self.check(False, self.HERE + self.HERE, self.LEAD, call)
        self.check(False, self.HERE + ((("here", ("",)), True, 1),), self.LEAD, call)
        for value, rank in ((False, 0), (1, 0), (None, 0), (True, True), (True, -1), (True, None), ("", 0)):
            self.check(False, ((("here", ("",)), value, rank),), self.LEAD, call)
        self.check(False, self.HERE + ((("far", ("",)), "r", 1),), self.LEAD, call)
        self.check(True, self.HERE + ((("far", ("",)), "r", 1), (("far", ("r",)), "r", 0)), self.LEAD, call)
        self.check(False, self.HERE + ((("far", ("",)), "r", 1), (("far", ("r",)), "r", 1)), self.LEAD, call)
        self.check(False, self.HERE + ((("here", ("rr",)), True, 1),), self.LEAD, call)

    def test_ranks_do_not_count_for_the_ring(self):
        self.check(True, ((("here", ("",)), True, 10 ** 39),), (("self", ("",)),), ("self", ("",)))

    def test_calls_that_are_none(self):
        for other in (("one", ("rr",)), ("one", ()), ("five", ("",)), ["one", ("",)], ("one", [""]), None, (["one"], ("",)), "one"):
            self.check(False, (), self.RING + (other,))
            self.check(False, (), (other,) + self.RING)

    def test_stuck_at_the_first_call_without_a_value(self):
        program = read("fun f(x): truth = same(p(x), q(x)) or e(x) fun p(x): place = p(x) fun q(x): place = q(x) fun e(x): truth = e(x) "
                       "fun g(x): truth = two(q(x), p(x)) fun two(x, y): truth = two(x, y) fun h(x): truth = no and e(x) or not e(up(x)) "
                       "fun k(x): truth = if yes then e(x) else f(x) fun m(x): truth = e(x) and f(x) fun n(x): place = p(q(x))")
        for name, next_call in (("f", ("p", ("l",))), ("g", ("q", ("l",))), ("h", ("e", ("",))), ("k", ("e", ("l",))), ("m", ("e", ("l",))),
                                ("n", ("q", ("l",)))):
            for other in ("e", "p", "q", "f", "two"):
                for place in ("", "l"):
                    places = (place,) * (2 if other == "two" else 1)
                    thing = ("endless", (), ((name, ("l",)), (other, places)))
                    expected = (other, places) == next_call
                    if name != other:
                        self.assertIs(end_holds(program, T, (name, ("l",)), thing), expected, thing)


class Limits(unittest.TestCase):
    TEXT = ("fun f(x, y, z): truth = if not empty(y) then not not f(x, right(y), z) "
            "else if not empty(x) then not not f(right(x), top, z) "
            "else if same(z, top) then not f(top, top, left(top)) else ")

    def test_a_chain_of_thousands_of_calls(self):
        tree = chain("r" * 40)
        call = ("f", ("", "", ""))
        for end, word, value in (("yes", "given", False), ("f(x, y, z)", "endless", None), ("f(top, top, top)", "endless", None)):
            program = read(self.TEXT + end)
            self.assertIs(answer(program, tree, call), value)
            paper = judge_end(program, tree, call)
            self.assertEqual(paper[0], word)
            self.assertEqual(len(paper[2]), 3362)
            self.assertIs(end_holds(program, tree, call, paper), True)
            self.assertIs(end_holds(program, tree, call, paper[:2] + (paper[2][:3361],)), False)
            self.assertIs(end_holds(program, tree, call, paper[:2] + (paper[2][1:],)), False)

    def test_an_exponential_run(self):
        program = read("fun f(x): truth = if empty(x) then yes else f(right(x)) and f(right(x)) fun g(x): truth = not f(x) or g(x)")
        tree = chain("r" * 40)
        for call, word in ((("f", ("",)), "given"), (("g", ("r",)), "endless")):
            paper = judge_end(program, tree, call)
            self.assertEqual(paper[0], word)
            self.assertIs(end_holds(program, tree, call, paper), True)


class Errors(unittest.TestCase):
    CHOOSING = read("fun f(x): truth = empty(x) fun g(x): place = left(either(x, x)) fun e(): truth = either(no, no)")

    def test_order(self):
        unfit = read("fun f(x): truth = x")
        good = {"program": RINGS, "tree": T, "call": ("one", ("l",))}
        for first in ((unfit, "BadProgram", unfit), (self.CHOOSING, "Choosing", "g")):
            wrong = {"program": first, "tree": (["a"], "BadTree", ["a"]), "call": (("one", ("rr",)), "BadCall", ("one", ("rr",)))}
            check_order(self, judge_end, good, wrong)
            check_order(self, end_holds, {**good, "thing": None}, wrong)
        both = read("fun f(x): place = either(y, x)")
        check_raises(self, "BadProgram", both, judge_end, both, None, ("f", ("",)))
        check_raises(self, "BadProgram", both, end_holds, both, None, ("f", ("",)), None)
        check_raises(self, "Choosing", "e", judge_end, self.CHOOSING[::2], None, ("f", ("",)))

    def test_each_wrong_argument(self):
        for thing in ODD_VALUES + [("one", ["l"]), ("one", ("l", "l")), ["one", ("l",)], ("five", ("l",))]:
            if not is_program(thing):
                check_raises(self, "BadProgram", thing, judge_end, thing, T, ("one", ("l",)))
                check_raises(self, "BadProgram", thing, end_holds, thing, T, ("one", ("l",)), None)
            if not is_tree(thing):
                check_raises(self, "BadTree", thing, judge_end, RINGS, thing, ("one", ("l",)))
                check_raises(self, "BadTree", thing, end_holds, RINGS, thing, ("one", ("l",)), None)
            if not is_call(RINGS, T, thing):
                check_raises(self, "BadCall", thing, judge_end, RINGS, T, thing)
                check_raises(self, "BadCall", thing, end_holds, RINGS, T, thing, None)

    def test_all_calls_have_a_certificate(self):
        for call in all_calls(RINGS, T):
            self.assertIs(end_holds(RINGS, T, call, judge_end(RINGS, T, call)), True)
