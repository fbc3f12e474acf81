"""The guarantee [0.3] over the whole program, sentence by sentence, from the text to the run of the code."""

import itertools
import random
import unittest

from eyesonly.bounds import bound, value_at, width
from eyesonly.chain import chain
from eyesonly.clocked import tape_outcome
from eyesonly.code import code_holds, is_accepted, judge_code
from eyesonly.codebounds import code_bound
from eyesonly.compiler import call_number, compiled
from eyesonly.heads import heads_of, heads_program, run_heads
from eyesonly.kinds import judge_script, script_holds
from eyesonly.last import is_last, judge_last, last_holds, run_last
from eyesonly.machines import run_plain
from eyesonly.made import made
from eyesonly.meaning import run
from eyesonly.papers import end_holds, judge_end, judge_outcome, outcome_holds
from eyesonly.shelf import (
    alike_program, game_program, grammar_program, palindrome_program, reach_program, spine, within_program,
)
from eyesonly.simplify import simplified
from eyesonly.tables import answer, lot, reached
from eyesonly.tabling import calls_met, judge_run, run_holds, run_table
from eyesonly.texts import read, written
from eyesonly.trees import places, tree_read, tree_written
from tests.codes import CodeMaker
from tests.helpers import chain as tree_chain
from tests.helpers import random_tree, same_value
from tests.machines import all_code_calls
from tests.programs import ProgramMaker, all_calls, small_trees, tuples_of
from tests.standings import LastMaker, random_machine, random_tape

TEXTS = (
    "fun last(x): place = if empty(right(x)) then x else last(right(x))",
    "fun alike(x, y): truth = if empty(x) or empty(y) then empty(x) and empty(y) else has(x, a) and has(y, a) and alike(left(x), left(y)) and alike(right(x), right(y))",
    "fun odd(x): truth = not empty(x) and even(right(x)) fun even(x): truth = empty(x) or odd(right(x)) fun none(): truth = odd(top)",
    "fun f(x): truth = if empty(x) then yes else f(right(x)) and f(right(x)) fun g(x): truth = not g(up(x)) fun h(x): truth = f(x) or g(x)",
    "fun a(x): place = if has(x, b) then x else b(up(x)) fun b(x): place = if same(x, top) then a(left(x)) else a(b(up(x)))",
)


def programs(seed, choice, many):
    """Programs of several forms."""
    maker = ProgramMaker(seed, choice)
    found = [] if choice else [read(text) for text in TEXTS]
    return found + [maker.program(1 + size % 4, size % 3, 1 + size % 5) for size in range(many)]


def some_calls(source, program, tree, many):
    calls = all_calls(program, tree)
    return source.sample(calls, min(many, len(calls)))


class WithoutChoice(unittest.TestCase):
    """For every program without choice, every tree and every call."""

    def check(self, program, tree, call, counts):
        m = len(places(tree))
        code, f = compiled(program), call_number(program, call[0])
        word, value, rows = run_table(code, tree, f, call[1])
        outcome = None if word == "endless" else value
        self.assertTrue(same_value(answer(program, tree, call), outcome), (program, tree, call))
        self.assertTrue(same_value(chain(written(program), tree, *call), ("endless" if outcome is None else outcome, rows, value_at(code_bound(code), m))))
        self.assertLessEqual(rows, value_at(code_bound(code), m))
        self.assertLessEqual(rows, 3 * value_at(bound(program), m))
        self.assertLessEqual(len(reached(program, tree, call)), value_at(width(program), m))
        self.assertLessEqual(len(calls_met(code, tree, f, call[1])), value_at(width(program), m))
        plain, by_rows = run(program, tree, call, "", 3000), run_plain(code, tree, f, call[1], 9000)
        if plain[0] == "outcome":
            self.assertTrue(same_value(plain[1], outcome), (program, tree, call))
            self.assertTrue(same_value(by_rows[:2], ("given", outcome)))
            self.assertLessEqual(by_rows[2], 3 * plain[2])
        elif outcome is None:
            self.assertEqual((plain, by_rows), (("cut",), ("out",)))
        key = plain[0], word
        counts[key] = counts.get(key, 0) + 1

    def test_the_table_machine_says_what_the_plain_run_does(self):
        source, counts = random.Random(801), {}
        for size, program in enumerate(programs(803, False, 200)):
            self.assertEqual(judge_script(program), ("fit",))
            self.assertIs(script_holds(program, ("fit",)), True)
            self.assertEqual(read(written(program)), program)
            for tree in small_trees()[size % 4::4]:
                self.assertEqual(tree_read(tree_written(tree)), tree)
                for call in some_calls(source, program, tree, 4):
                    self.check(program, tree, call, counts)
        self.assertGreater(min(counts["outcome", "given"], counts["cut", "endless"]), 100)
        self.assertNotIn(("outcome", "endless"), counts)

    def test_large_trees(self):
        source, counts = random.Random(809), {}
        trees = [tree_chain("r" * 40), tree_chain("lr" * 20, "b"), random_tree(source, 60), random_tree(source, 60, ("a", "b"))]
        for text in TEXTS:
            for tree in trees:
                for call in some_calls(source, read(text), tree, 3):
                    self.check(read(text), tree, call, counts)

    def test_the_compiled_rows_are_accepted(self):
        for program in programs(811, False, 200):
            code = compiled(program)
            paper = judge_code(code)
            self.assertEqual(paper[0], "accepted")
            self.assertIs(code_holds(code, paper), True)
            self.assertIs(is_accepted(code), True)

    def test_the_simplified_program_means_the_same(self):
        source = random.Random(821)
        for size, program in enumerate(programs(823, False, 100)):
            tree = small_trees()[size % 8]
            for call in some_calls(source, program, tree, 4):
                self.assertTrue(same_value(answer(simplified(program), tree, call), answer(program, tree, call)))


class Certificates(unittest.TestCase):
    """Every answer has a certificate, and no wrong answer has one."""

    def papers_for(self, program, tree, call):
        """Certificates for this call and for others, with all ways to put other values into them."""
        papers = [judge_end(program, tree, other) for other in (call, *reached(program, tree, call)[:3])]
        found = list(papers)
        for paper in papers:
            for value in (True, False, "", "l"):
                if paper[0] == "given":
                    found.append(("given", value, paper[2]))
                    found.append(("given", value, ((call, value, 0),)))
                    found.append(("given", value, paper[2] + ((call, value, 99),)))
                else:
                    found.append(("given", value, paper[1]))
                    found.append(("endless", paper[1], paper[2][1:]))
                    found.append(("endless", (), (call,)))
                found.append(("endless", paper[1] if paper[0] == "endless" else paper[2], (call,)))
        return found

    def test_ends(self):
        source, counts = random.Random(827), {}
        for size, program in enumerate(programs(829, False, 150)):
            tree = small_trees()[size % 7]
            for call in some_calls(source, program, tree, 4):
                right = answer(program, tree, call)
                paper = judge_end(program, tree, call)
                self.assertIs(end_holds(program, tree, call, paper), True)
                self.assertEqual(paper[0], "endless" if right is None else "given")
                for other in self.papers_for(program, tree, call):
                    if end_holds(program, tree, call, other):
                        self.assertEqual(other[0], paper[0])
                        self.assertTrue(other[0] == "endless" or same_value(other[1], right))
                        counts[other[0]] = counts.get(other[0], 0) + 1
        self.assertGreater(min(counts["given"], counts["endless"]), 100)

    def test_outcomes(self):
        source, counts = random.Random(839), {}
        for choice in (False, True):
            for size, program in enumerate(programs(853, choice, 100)):
                tree = small_trees()[size % 6]
                kinds = {function[1]: function[2] for function in program}
                for call in some_calls(source, program, tree, 3):
                    right = lot(program, tree, call)
                    values = (True, False) if kinds[call[0]] == "truth" else places(tree)
                    papers = [judge_outcome(program, tree, call, value) for value in values]
                    for value in values:
                        held = [paper[0] for paper in papers if outcome_holds(program, tree, call, value, paper)]
                        self.assertEqual(set(held), {"table" if value in right else "closed"})
                        counts[held[0]] = counts.get(held[0], 0) + 1
        self.assertGreater(min(counts.values()), 200)

    def test_runs_of_code(self):
        source, counts = random.Random(857), {}
        for size, program in enumerate(programs(859, False, 100)):
            tree, code = small_trees()[size % 7], compiled(program)
            for call in some_calls(source, program, tree, 3):
                f, right = call_number(program, call[0]), answer(program, tree, call)
                paper = judge_run(code, tree, f, call[1])
                self.assertIs(run_holds(code, tree, f, call[1], paper), True)
                self.assertEqual(paper[0], "endless" if right is None else "given")
                entries = paper[1] if right is None else paper[2]
                for other in [("given", value, entries) for value in (True, False, "", "l")] + [("endless", entries, ((f, call[1]),))]:
                    if run_holds(code, tree, f, call[1], other):
                        self.assertEqual(other[0], paper[0])
                        self.assertTrue(other[0] == "endless" or same_value(other[1], right))
                counts[paper[0]] = counts.get(paper[0], 0) + 1
        self.assertGreater(min(counts.values()), 50)


class AcceptedRows(unittest.TestCase):
    def test_any_rows_that_are_accepted_run_within_their_bound(self):
        maker, source, counts = CodeMaker(863), random.Random(877), {}
        for size in range(300):
            code, tree = maker.code(1 + size % 5, size % 3, 1 + size % 14), small_trees()[size % 8]
            self.assertIs(is_accepted(code), True)
            most = value_at(code_bound(code), len(places(tree)))
            calls = all_code_calls(code, tree)
            for f, row in source.sample(calls, min(5, len(calls))):
                word, value, rows = run_table(code, tree, f, row)
                self.assertLessEqual(rows, most)
                plain = run_plain(code, tree, f, row, 3000)
                if plain[0] == "given":
                    self.assertTrue(same_value((word, value), plain[:2]))
                counts[word, plain[0]] = counts.get((word, plain[0]), 0) + 1
        self.assertNotIn(("endless", "given"), counts)
        self.assertGreater(min(counts["given", "given"], counts["endless", "out"]), 50)


class WithChoice(unittest.TestCase):
    def outcomes(self, program, tree, call, most):
        """All outcomes of runs with at most so many picks, and whether there may be more."""
        found, more, waiting = set(), False, [""]
        while waiting:
            picks = waiting.pop()
            result = run(program, tree, call, picks, 2000)
            if result[0] == "outcome":
                found.add(result[1])
            elif result[0] == "open" and len(picks) < most:
                waiting += [picks + "l", picks + "r"]
            else:
                more = True
        return found, more

    def test_the_lot_is_the_set_of_all_outcomes(self):
        source, counts = random.Random(881), {}
        texts = ("fun some(x): place = if empty(x) then x else either(x, either(some(left(x)), some(right(x))))", "fun f(x): truth = has(either(x, up(x)), a) and either(yes, f(up(x)))",
                 "fun g(x): place = either(g(x), left(x))", "fun h(x): truth = same(either(x, top), either(top, x))", "fun e(x): truth = either(e(x), e(up(x)))")
        for size, program in enumerate([read(text) for text in texts] + programs(883, True, 150)):
            tree = small_trees()[size % 5]
            for call in some_calls(source, program, tree, 3):
                found, more = self.outcomes(program, tree, call, 7)
                right = lot(program, tree, call)
                self.assertEqual(right, tuple(sorted(right)))
                self.assertTrue(found == set(right) or more and found < set(right), (program, tree, call, found, right))
                key = min(len(right), 2), more
                counts[key] = counts.get(key, 0) + 1
        self.assertGreater(min(counts[many, more] for many in (1, 2) for more in (False, True)), 10)
        self.assertGreater(counts[0, True], 10)


class MadePrograms(unittest.TestCase):
    def test_every_clocked_machine_is_made_into_a_program(self):
        source, counts = random.Random(887), {True: 0, False: 0}
        for size in range(60):
            machine, c = random_tape(source, ("a", "b")[:size % 3], 4, 1 + size % 3, 0.1), 1 + size % 2
            program = made(machine, c)
            for tree in (None, ("a", None, None), ("b", None, None), *small_trees()[:2 if c == 1 else 0]):
                expected = tape_outcome(machine, tree, c)
                self.assertIs(answer(program, tree, ("main", ())), expected)
                self.assertIs(answer(read(written(program)), tree, ("main", ())), expected)
                if len(places(tree)) ** c < 10:
                    self.assertIs(chain(written(program), tree, "main", ())[0], expected)
                counts[expected] += 1
        self.assertGreater(min(counts.values()), 20)

    def test_every_head_machine_is_made_into_a_program_whose_calls_come_last(self):
        source, counts = random.Random(907), {}
        for size in range(80):
            k = 1 + size % 3
            machine = random_machine(source, k, 1 + size % 5)
            program = heads_program(machine)
            self.assertIs(is_last(program), True)
            self.assertIs(last_holds(program, judge_last(program)), True)
            code = compiled(program)
            for tree in small_trees()[:4]:
                for row in source.sample(tuples_of(places(tree), k), min(4, len(places(tree)) ** k)):
                    word, truth, _ = run_heads(machine, tree, row)
                    expected = truth if word == "given" else None
                    self.assertIs(answer(program, tree, (machine[2][0][0], row)), expected)
                    self.assertEqual(run_last(program, tree, machine[2][0][0], row)[0], word)
                    self.assertEqual(run_table(code, tree, 0, row)[0], word)
                    counts[expected] = counts.get(expected, 0) + 1
        self.assertGreater(min(counts[key] for key in (True, False, None)), 50)

    def test_and_back(self):
        maker, counts = LastMaker(911), {}
        for size in range(60):
            program, tree = maker.program(1 + size % 3, 2, 1 + size % 3), small_trees()[size % 5]
            for _, name, kind, names, _ in program:
                if kind == "truth":
                    machine = heads_of(program, name)
                    for row in tuples_of(places(tree), len(names))[::2]:
                        word, truth, _ = run_heads(machine, tree, row + ("",) * (machine[1] - len(row)))
                        expected = answer(program, tree, (name, row))
                        self.assertIs(truth if word == "given" else None, expected)
                        counts[expected] = counts.get(expected, 0) + 1
        self.assertGreater(min(counts[key] for key in (True, False, None)), 50)

    def test_the_shelf_from_the_text_to_the_run(self):
        words = [word for many in range(5) for word in itertools.product(("a", "b"), repeat=many)]
        rules = (("s", "pair", "s", "s"), ("s", "pair", "t", "u"), ("t", "tag", "a"), ("u", "tag", "b"))
        questions = (
            (palindrome_program(("a", "b")), lambda word: word == word[::-1]),
            (within_program(("a", "b")), lambda word: "ab" in "".join(word)),
            (grammar_program(rules), lambda word: word in (("a", "b"), ("a", "b", "a", "b"))),
            (reach_program((("a", "b"), ("b", "b"))), lambda word: not word or word[0] == "a" or word[-1] == "b"),
        )
        for program, expected in questions:
            for word in words:
                if word:
                    self.assertIs(chain(written(program), spine(word), "main", ())[0], expected(word), (program, word))
        twins = ("b", ("a", None, None), ("a", None, None))
        for tree, expected in ((twins, True), (("a", twins, twins), True), (("a", twins, None), False), (None, True)):
            self.assertIs(chain(written(alike_program(("a", "b"))), tree, "main", ())[0], expected)
        yes, no = ("yes", None, None), ("no", None, None)
        for tree, expected in ((("or", yes, no), True), (("and", yes, no), False), (("and", yes, ("or", no, yes)), True), (None, False)):
            self.assertIs(chain(written(game_program()), tree, "main", ())[0], expected)
