"""Certificates for runs of code: point [8.5], and what the guarantee [0.3] says of them."""

import random
import unittest

from eyesonly.tabling import calls_met, judge_run, run_holds, run_table
from tests.codes import CodeMaker
from tests.helpers import ODD_VALUES, check_changed, same_value
from tests.machines import RunPapers, TableByWords, all_code_calls
from tests.programs import small_trees
from tests.test_tabling import LAST, LEADING, RING

T = ("a", ("b", None, None), None)
WORD = ("a", None, ("b", None, None))
ODD_ENTRIES = [None, True, False, 0, 1, -1, "", "l", (0, ("r",)), (1, ("l",)), (), [0, ("r",)]]


class Certificates(unittest.TestCase):
    def holds(self, code, f, places, thing, tree=T):
        found = run_holds(code, tree, f, places, thing)
        self.assertIsInstance(found, bool)
        self.assertEqual(found, RunPapers(code, tree).is_paper(f, places, thing), (code, f, places, thing))
        return found

    def test_random_code(self):
        maker, source = CodeMaker(163), random.Random(167)
        words = {}
        for size in range(500):
            code = maker.code(1 + size % 5, size % 3, 1 + size % 14)
            tree = small_trees()[size % 8]
            calls = all_code_calls(code, tree)
            for f, places in source.sample(calls, min(5, len(calls))):
                paper = judge_run(code, tree, f, places)
                self.assertTrue(RunPapers(code, tree).is_paper(f, places, paper), (code, tree, f, places, paper))
                self.assertIs(run_holds(code, tree, f, places, paper), True)
                result = TableByWords(code, tree, f, places).result
                self.assertEqual(paper[0], result[0])
                if paper[0] == "given":
                    self.assertTrue(same_value(paper[1], result[1]))
                self.assertLessEqual({entry[0] for entry in paper[1 + (paper[0] == "given")]}, set(calls_met(code, tree, f, places)))
                words[paper[0], len(paper[2]) > 1] = words.get((paper[0], len(paper[2]) > 1), 0) + 1
        self.assertEqual(len(words), 4)
        self.assertGreater(min(words.values()), 10)

    def test_changed_certificates(self):
        calls = ((LAST, 0, ("",)), (RING, 0, ("r",)), (LEADING, 0, ("",)), (LEADING, 1, ("",)), (LEADING, 4, ("l",)), (LEADING, 5, ("",)))
        papers = [(*call, judge_run(call[0], WORD, *call[1:])) for call in calls]
        check_changed(self, lambda *values: self.holds(*values, WORD), papers, ODD_ENTRIES)

    def test_any_value(self):
        for thing in ODD_VALUES:
            for code, f, places in ((LEADING, 1, ("",)), (LEADING, 4, ("",)), (LAST, 0, ("r",))):
                self.assertIs(run_holds(code, T, f, places, thing), False)
                for paper in (("given", thing, ()), ("given", True, thing), ("given", True, (thing,)), ("endless", thing, ((f, places),)),
                              ("endless", (thing,), ((f, places),)), ("endless", (), thing), ("endless", (), ((f, places), thing)),
                              ("endless", (), (thing,)), ("given", True, (((f, places), thing, 0),)), ("given", True, ((thing, True, 0),)),
                              (thing, True, ()), (thing, (), ((f, places),))):
                    self.assertIs(run_holds(code, T, f, places, paper), RunPapers(code, T).is_paper(f, places, paper), paper)

    def test_never_both(self):
        source = random.Random(173)
        found = {}
        for turn in range(6000):
            code, tree = ((LEADING, T), (RING, T), (LAST, WORD))[turn // 2 % 3]
            f, places = source.choice(all_code_calls(code, tree))
            met = calls_met(code, tree, f, places)
            table = TableByWords(code, tree, f, places).table
            picked = source.sample(met, source.randrange(len(met) + 1))
            entries = tuple((call, table[call], source.randrange(3)) for call in picked if call in table)
            if turn % 2:
                thing = ("given", source.choice((True, False, "", "r")), entries)
            else:
                thing = ("endless", entries, ((f, places),) + tuple(source.sample(met, source.randrange(min(4, len(met) + 1)))))
            if self.holds(code, f, places, thing, tree):
                self.assertEqual(thing[0], run_table(code, tree, f, places)[0])
                found[thing[0]] = found.get(thing[0], 0) + 1
        self.assertGreater(min(found["given"], found["endless"]), 20)


class Given(unittest.TestCase):
    """Each clause for ("given", value, entries) broken by itself."""

    ENTRIES = (((0, ("r",)), "r", 0), ((0, ("",)), "r", 1))

    def check(self, expected, thing, code=LAST, f=0, places=("",)):
        self.assertIs(run_holds(code, WORD, f, places, thing), expected, thing)
        self.assertEqual(RunPapers(code, WORD).is_paper(f, places, thing), expected, thing)

    def test_it_holds(self):
        self.check(True, ("given", "r", self.ENTRIES))
        self.check(True, ("given", "r", self.ENTRIES[::-1]))
        self.check(True, ("given", "r", self.ENTRIES), places=("r",))
        self.check(True, ("given", "r", self.ENTRIES + (((0, ("l",)), "l", 0),)))

    def test_the_form(self):
        for thing in (("given", "r"), ("given", "r", self.ENTRIES, ()), ["given", "r", self.ENTRIES], ("given", self.ENTRIES, "r"),
                      ("table", "r", self.ENTRIES), ("endless", "r", self.ENTRIES), ("given", "r", list(self.ENTRIES)), ("given",),
                      ("given", "r", ([*self.ENTRIES[0]], self.ENTRIES[1])), ("given", "r", (self.ENTRIES[0] + (0,), self.ENTRIES[1])),
                      ("given", "r", (self.ENTRIES[0][:2], self.ENTRIES[1]))):
            self.check(False, thing)

    def test_ranks(self):
        for low, high, expected in ((0, 1, True), (5, 10 ** 39, True), (0, 0, False), (1, 0, False), (1, 1, False), (-1, 0, False), (0, True, False),
                                    (False, 1, False), (0, None, False), (0, "1", False), (0, (1,), False)):
            self.check(expected, ("given", "r", (((0, ("r",)), "r", low), ((0, ("",)), "r", high))))

    def test_outcomes(self):
        for value in ("", "l", "rr", True, False, None, ("r",), 0):
            self.check(False, ("given", value, self.ENTRIES))
            self.check(False, ("given", value, (self.ENTRIES[0], ((0, ("",)), value, 1))))
            self.check(False, ("given", "r", (((0, ("r",)), value, 0), self.ENTRIES[1])))
        code = (("truth", 1, 2, (("empty", 1, 0), ("give", 1))),)
        for value, expected in ((True, True), (1, False), (False, False), (0, False), ("", False), (None, False)):
            self.check(expected, ("given", value, (((0, ("l",)), value, 0),)), code, 0, ("l",))
            self.check(expected, ("given", value, (((0, ("l",)), True, 0),)), code, 0, ("l",))
            self.check(expected, ("given", True, (((0, ("l",)), value, 0),)), code, 0, ("l",))

    def test_entries_left_out(self):
        self.check(False, ("given", "r", self.ENTRIES[1:]))
        self.check(False, ("given", "r", self.ENTRIES[:1]))
        self.check(False, ("given", "r", ()))

    def test_a_call_twice(self):
        self.check(False, ("given", "r", self.ENTRIES + self.ENTRIES[:1]))
        self.check(False, ("given", "r", self.ENTRIES + self.ENTRIES[1:]))
        self.check(False, ("given", "r", self.ENTRIES + (((0, ("r",)), "r", 7),)))

    def test_calls_that_are_none(self):
        for call in ((1, ("r",)), (-1, ("r",)), (False, ("l",)), (None, ("l",)), ("0", ("l",)), (0, ("ll",)), (0, ()), (0, ("l", "l")), (0, ["l"]),
                     [0, ("l",)], (0,), (0, ("l",), 0), (0, "l"), (0, (None,)), ("last", ("l",)), ([0], ("l",)), (0, (["l"],)), None, 10 ** 39):
            self.check(False, ("given", "r", self.ENTRIES + ((call, "l", 0),)))
        two = LAST + LAST
        self.check(True, ("given", "r", self.ENTRIES + (((1, ("l",)), "l", 0),)), two)
        self.check(False, ("given", "r", self.ENTRIES + (((True, ("l",)), "l", 0),)), two)

    def test_unneeded_entries_must_follow(self):
        self.check(False, ("given", "r", self.ENTRIES + (((0, ("l",)), "r", 5),)))
        self.check(False, ("given", True, (((4, ("",)), True, 0), ((5, ("",)), "", 0))), LEADING, 4)
        self.check(True, ("given", True, (((4, ("",)), True, 0),)), LEADING, 4)


class Endless(unittest.TestCase):
    """Each clause for ("endless", entries, calls) broken by itself."""

    RING = ((1, ("",)), (2, ("",)), (3, ("",)))
    ENTRIES = (((4, ("",)), True, 0),)
    LEAD = ((0, ("",)),) + RING

    def check(self, expected, entries, calls, f=1, places=("",), code=LEADING):
        thing = ("endless", entries, calls)
        self.assertIs(run_holds(code, T, f, places, thing), expected, thing)
        self.assertEqual(RunPapers(code, T).is_paper(f, places, thing), expected, thing)

    def test_it_holds(self):
        self.check(True, self.ENTRIES, self.RING)
        self.check(True, self.ENTRIES, self.LEAD, 0)
        self.check(True, self.ENTRIES + (((4, ("l",)), True, 0), ((4, ("r",)), False, 8)), self.RING)
        self.check(True, (((4, ("",)), True, 10 ** 39),), self.RING)
        self.check(True, (), ((0, ("ll",)), (0, ("l",)), (0, ("",))), 0, ("ll",), RING)

    def test_the_form(self):
        for thing in (("endless", self.ENTRIES), ("endless", self.ENTRIES, self.RING, ()), ["endless", self.ENTRIES, self.RING],
                      ("endless", self.RING, self.ENTRIES), ("given", self.ENTRIES, self.RING), ("endless", list(self.ENTRIES), self.RING),
                      ("endless", self.ENTRIES, list(self.RING)), ("endless", self.ENTRIES, self.RING[0]), ("endless",), ("ring", self.ENTRIES, self.RING),
                      ("endless", self.ENTRIES, ([1, ("",)],) + self.RING[1:]), ("endless", None, self.RING)):
            self.assertIs(run_holds(LEADING, T, 1, ("",), thing), False, thing)

    def test_a_call_that_waits_for_itself(self):
        self.check(True, (), ((5, ("l",)),), 5, ("l",))
        self.check(False, (), ((5, ("l",)), (5, ("l",))), 5, ("l",))
        self.check(False, (), ((5, ("l",)), (5, ("",))), 5, ("l",))
        self.check(False, (), (), 5, ("l",))

    def test_a_ring_that_begins_at_another_call(self):
        self.check(False, self.ENTRIES, self.RING[1:] + self.RING[:1])
        self.check(True, self.ENTRIES, self.RING[1:] + self.RING[:1], 2)
        self.check(False, self.ENTRIES, self.LEAD)
        self.check(False, self.ENTRIES, self.RING, 0)

    def test_a_call_twice_or_left_out(self):
        self.check(False, self.ENTRIES, self.RING + self.RING)
        self.check(False, self.ENTRIES, self.RING + self.RING[:1])
        self.check(False, self.ENTRIES, self.RING[:2] + self.RING[1:])
        for at in range(3):
            self.check(False, self.ENTRIES, self.RING[:at] + self.RING[at + 1:])
        for at in range(4):
            self.check(False, self.ENTRIES, self.LEAD[:at] + self.LEAD[at + 1:], 0)
        self.check(False, self.ENTRIES, (self.RING[0], self.RING[2], self.RING[1]))

    def test_the_last_call_comes_to_one_of_the_ring(self):
        self.check(False, self.ENTRIES, self.RING[:1])
        self.check(False, self.ENTRIES, self.RING[:2])
        self.check(False, self.ENTRIES, self.LEAD[:3], 0)
        # Here it comes to the second one.
        self.check(True, self.ENTRIES, self.LEAD, 0)

    def test_a_call_of_the_ring_that_has_an_entry(self):
        for call in self.RING:
            for outcome in (False, True):
                self.check(False, self.ENTRIES + ((call, outcome, 3),), self.RING)
        # This one is no ring: the outcome of the last call follows.
        code = (("truth", 0, 1, (("call", 0, 1, ()), ("give", 0))), ("truth", 0, 1, (("yes", 0), ("give", 0))))
        for entries in ((), (((1, ()), True, 0),), (((1, ()), True, 0), ((0, ()), True, 1))):
            for calls in (((0, ()),), ((0, ()), (1, ())), ((1, ()), (0, ()))):
                for f in (0, 1):
                    self.check(False, entries, calls, f, (), code)

    def test_entries(self):
        self.check(False, (), self.RING)
        self.check(False, (), self.RING[:1] + ((4, ("",)),))
        self.check(False, self.ENTRIES + self.ENTRIES, self.RING)
        self.check(False, self.ENTRIES + (((4, ("",)), True, 1),), self.RING)
        for outcome, rank in ((False, 0), (1, 0), (None, 0), ("", 0), (True, True), (True, False), (True, -1), (True, None)):
            self.check(False, (((4, ("",)), outcome, rank),), self.RING)
        self.check(False, self.ENTRIES + (((4, ("l",)), False, 0),), self.RING)
        self.check(False, self.ENTRIES + (((5, ("l",)), "l", 0),), self.RING)
        self.check(False, self.ENTRIES + (((6, ("l",)), "l", 0),), self.RING)

    def test_calls_that_are_none(self):
        for call in ((6, ("",)), (-1, ("",)), (True, ("",)), (None, ("",)), (1, ("rr",)), (1, ()), (1, [""]), [1, ("",)], (1,), (1, ("",), 0), None,
                     ([1], ("",))):
            self.check(False, self.ENTRIES, self.RING + (call,))
            self.check(False, self.ENTRIES, (call,) + self.RING)
            self.check(False, self.ENTRIES, (call,) + self.RING[1:])

    def test_each_call_has_certificates_of_one_kind(self):
        for code, tree in ((LEADING, T), (RING, T), (LAST, WORD)):
            for f, places in all_code_calls(code, tree):
                paper = judge_run(code, tree, f, places)
                self.assertIs(run_holds(code, tree, f, places, paper), True)
                self.assertEqual(paper[0], run_table(code, tree, f, places)[0])
