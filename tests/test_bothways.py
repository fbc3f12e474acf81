"""Head machines made into last programs, and last programs made into head machines: point [10.5]."""

import random
import unittest

from eyesonly.compiler import compiled
from eyesonly.heads import heads_of, heads_program, is_machine, run_heads
from eyesonly.kinds import has_choice, is_program
from eyesonly.last import is_last, run_last
from eyesonly.tables import answer
from eyesonly.texts import read, written
from tests.helpers import ODD_VALUES, chain, check_order, check_raises, random_tree
from tests.programs import small_trees, tree_parts, tuples_of
from tests.standings import LastMaker, random_machine, run_heads_by_words
from tests.test_heads import FINDB
from tests.test_last import CHOOSING

T = ("a", ("b", None, None), None)
TREES = (None, T, ("b", ("a", None, None), ("if", None, ("a", None, None))), chain("rrr", "b"), chain("lrl"))


def word_of_heads(found):
    """What a run of a head machine ends with: True, False or None."""
    return found[1] if found[0] == "given" else None


class Programs(unittest.TestCase):
    def check_form(self, machine):
        program = heads_program(machine)
        self.assertIs(is_program(program), True)
        self.assertIs(has_choice(program), False)
        self.assertIs(is_last(program), True)
        self.assertEqual(heads_program(machine), program)
        found = {function[1]: function for function in program}
        for state in machine[2]:
            self.assertEqual((found[state[0]][2], len(found[state[0]][3])), ("truth", machine[1]))
        return program

    def check_runs(self, machine, program, tree, places):
        first = machine[2][0][0]
        expected = word_of_heads(run_heads_by_words(machine, tree, places))
        self.assertIs(word_of_heads(run_heads(machine, tree, places)), expected)
        self.assertIs(word_of_heads(run_last(program, tree, first, places)), expected, (machine, tree, places))
        self.assertIs(answer(program, tree, (first, places)), expected)
        return expected

    def test_random_machines(self):
        source = random.Random(431)
        found = {True: 0, False: 0, None: 0}
        for size in range(150):
            k = 1 + size % 2
            machine = random_machine(source, k, 1 + size % 7)
            program = self.check_form(machine)
            self.assertEqual(read(written(program)), program)
            for tree in TREES:
                for places in tuples_of(sorted(tree_parts(tree)), k)[::1 if k == 1 else 5]:
                    found[self.check_runs(machine, program, tree, places)] += 1
        self.assertGreater(min(found.values()), 200)

    def test_up_to_five_heads(self):
        source = random.Random(433)
        for size in range(120):
            k = 3 + size % 3
            machine, tree = random_machine(source, k, 1 + size % 8), TREES[size % 5]
            program = self.check_form(machine)
            for _ in range(6):
                self.check_runs(machine, program, tree, tuple(source.choice(sorted(tree_parts(tree))) for _ in range(k)))

    def test_all_tests_and_moves(self):
        tests = [("has", 0, "b"), ("has", 1, "a"), ("empty", 0), ("empty", 1), ("same", 0, 1), ("same", 1, 0), ("same", 0, 0)]
        moves = ["top", "left", "right", "up", ("to", 0), ("to", 1)]
        for test in tests:
            for move in moves:
                for head in (0, 1):
                    last = ("t", ("has", 1 - head, "b"), ("yes", ()), ("no", ()))
                    for branches in ((("t", ((head, move),)), ("no", ())), (("yes", ((head, move),)), ("t", ((head, move),)))):
                        machine = ("heads", 2, (("s", test) + branches, last))
                        program = self.check_form(machine)
                        for places in tuples_of(sorted(tree_parts(T)), 2):
                            self.check_runs(machine, program, T, places)

    def test_moves_at_once(self):
        machine = ("heads", 3, (("s", ("has", 0, "b"), ("yes", ()), ("s", ((0, ("to", 1)), (1, ("to", 2)), (2, ("to", 0))))),))
        program = self.check_form(machine)
        for places in tuples_of(sorted(tree_parts(T)), 3):
            self.check_runs(machine, program, T, places)
            self.assertIs(word_of_heads(run_last(program, T, "s", places)), True if "l" in places else None)

    def test_names_of_states(self):
        names = ("abcdefghijklmnopqrst", "abcdefghijklmnopqrsu", "a", "ab", "h0", "h1", "heads", "main")
        states = []
        for at, name in enumerate(names):
            after = names[(at + 1) % len(names)]
            states.append((name, ("has", at % 2, "b"), ("yes", ()), (after, ((at % 2, ("left", "right", "up", ("to", 0))[at % 4]),))))
        machine = ("heads", 2, tuple(states))
        program = self.check_form(machine)
        for tree in TREES:
            for places in tuples_of(sorted(tree_parts(tree)), 2):
                self.check_runs(machine, program, tree, places)

    def test_calls_of_the_other_states(self):
        # Each state's function does what the machine does that begins with this state.
        source = random.Random(439)
        for size in range(40):
            machine = random_machine(source, 2, 4)
            program = heads_program(machine)
            for at in range(4):
                turned = ("heads", 2, machine[2][at:] + machine[2][:at])
                for places in tuples_of(sorted(tree_parts(T)), 2)[::4]:
                    self.check_runs(turned, program, T, places)

    def test_two_thousand_states(self):
        moves = tuple((at, ("to", (at + 1) % 5)) for at in range(5))
        states = [(f"s{at}", ("same", 0, 4), (f"s{at + 1}", moves), (f"s{at + 1}", moves)) for at in range(1999)]
        machine = ("heads", 5, tuple(states + [("s1999", ("empty", 0), ("yes", ()), ("no", ()))]))
        program = self.check_form(machine)
        self.assertEqual(run_heads(machine, None, ("",) * 5), ("given", True, 2000))
        self.assertEqual(run_last(program, None, "s0", ("",) * 5), ("given", True, 2000))


class Machines(unittest.TestCase):
    def check_form(self, program, name):
        machine = heads_of(program, name)
        self.assertIs(is_machine(machine), True)
        self.assertLessEqual(machine[1], max(function[2] for function in compiled(program)))
        self.assertLessEqual(len(machine[2]), 2000)
        self.assertEqual(heads_of(program, name), machine)
        return machine

    def check_runs(self, program, name, machine, tree, places):
        begin = places + ("",) * (machine[1] - len(places))
        found = word_of_heads(run_heads(machine, tree, begin))
        expected = answer(program, tree, (name, places))
        self.assertIs(found, expected, (program, name, tree, places))
        return expected

    def check(self, program, trees=TREES, step=1):
        """Each function of the kind "truth"; how often each outcome came."""
        found = {True: 0, False: 0, None: 0}
        for _, name, kind, names, _ in program:
            if kind == "truth":
                machine = self.check_form(program, name)
                for tree in trees:
                    for places in tuples_of(sorted(tree_parts(tree)), len(names))[::step]:
                        found[self.check_runs(program, name, machine, tree, places)] += 1
        return found

    def test_bodies_without_parts(self):
        self.check(read("fun f(): truth = yes fun g(): truth = no fun h(x): truth = yes fun i(x, y): truth = no"))

    def test_a_function_without_names_that_is_endless(self):
        self.assertEqual(self.check(read("fun f(): truth = f() fun g(): truth = f() fun h(): truth = yes and h()")), {True: 0, False: 0, None: 15})

    def test_looks(self):
        for text in ("empty(x)", "has(x, b)", "has(left(x), b)", "empty(right(left(x)))", "same(x, top)", "same(up(x), top)", "same(left(x), right(x))", "same(up(left(x)), x)",
                     "not empty(x)", "not not has(up(x), if)", "same(left(up(x)), x)"):
            self.assertGreater(sum(self.check(read("fun f(x): truth = " + text)).values()), 20)

    def test_and_or_not_and_if(self):
        one, two, three = "empty(x)", "has(y, b)", "same(x, y)"
        for text in (f"{one} and {two}", f"{one} or {two}", f"not ({one} and {two})", f"not ({one} or not {two})", f"if {one} then {two} else {three}",
                     f"not (if {one} then {two} else not {three})", f"if {one} and {two} or {three} then not {one} else {two} or {three}",
                     f"if (if {one} then {two} else {three}) then {three} or {one} else (if {two} then no else yes)", f"yes and {one} or no", f"not yes or {three}"):
            self.check(read("fun f(x, y): truth = " + text))

    def test_places_with_if(self):
        for text in ("empty(if empty(x) then up(x) else left(x))", "same(if has(x, b) then left(x) else y, if same(x, y) then top else up(y))",
                     "has(left(if empty(x) and has(y, b) then y else if empty(y) or same(x, top) then x else up(y)), a)",
                     "same(x, if same(y, if empty(x) then left(y) else right(y)) then up(x) else y)"):
            self.check(read("fun f(x, y): truth = " + text))

    def test_calls(self):
        for text in ("fun f(x): truth = has(x, b) or not empty(x) and f(right(x))", "fun f(x, y): truth = if empty(x) then has(y, b) else f(y, left(x))",
                     "fun f(x, y): truth = same(x, y) or f(up(x), up(y))", "fun f(x): truth = if empty(x) then g(x, up(x)) else g(left(x), top) fun g(x, y): truth = has(y, a) and f(right(y))",
                     "fun f(x, y, z): truth = if empty(x) then empty(y) and has(z, b) else f(y, z, left(x))", "fun f(): truth = g(top, left(top), right(top)) fun g(x, y, z): truth = "
                     "has(x, b) or (if empty(y) then has(z, a) else g(y, z, right(x)))", "fun f(x): truth = empty(x) or h() fun h(): truth = f(left(top))"):
            self.check(read(text), step=3)

    def test_terms_of_a_call_are_taken_at_once(self):
        program = read("fun f(x, y): truth = if has(x, b) then has(y, a) else f(y, x) fun g(x, y, z): truth = has(x, b) or g(y, if empty(z) then top else left(z), up(x))")
        self.assertIs(run_heads(heads_of(program, "f"), T, ("", "l") + ("",) * (heads_of(program, "f")[1] - 2))[1], True)
        self.check(program, TREES[:3])

    def test_other_functions_of_the_program(self):
        text = "fun p(x, y, z): place = if same(x, left(y)) then z else p(left(x), y, z) fun f(x): truth = empty(x) or f(left(x)) fun g(x): truth = not has(x, a)"
        program = read(text)
        self.check(program)
        check_raises(self, "BadName", "p", heads_of, program, "p")

    def test_random_programs(self):
        maker = LastMaker(443)
        found = {True: 0, False: 0, None: 0}
        for size in range(250):
            program = maker.program(1 + size % 4, 1 + size % 2, 1 + size % 4)
            for outcome, many in self.check(program, [small_trees()[size % 8]], 1 + size % 3).items():
                found[outcome] += many
        self.assertGreater(min(found.values()), 200)

    def test_five_names(self):
        maker, source = LastMaker(449), random.Random(457)
        for size in range(40):
            program, tree = maker.program(2, 5, 3), TREES[size % 5]
            for _, name, kind, names, _ in program:
                if kind == "truth":
                    machine = self.check_form(program, name)
                    for _ in range(5):
                        places = tuple(source.choice(sorted(tree_parts(tree))) for _ in names)
                        self.check_runs(program, name, machine, tree, places)

    def test_many_terms_and_many_heads(self):
        deep = "x"
        for _ in range(9):
            deep = f"if same(x, {deep}) then left(x) else right(x)"
        program = read(f"fun f(x): truth = empty({deep}) or f(left(x))")
        self.assertEqual(compiled(program)[0][2], 11)
        self.check(program)
        parts = " and ".join(["not (empty(left(x)) and has(up(x), b))"] * 40)
        self.check(read(f"fun f(x): truth = {parts} or f(right(x))"))

    def test_there_and_back_again(self):
        source = random.Random(461)
        for size in range(30):
            k = 1 + size % 2
            machine = random_machine(source, k, 1 + size % 4)
            program = heads_program(machine)
            again = self.check_form(program, machine[2][0][0])
            for tree in TREES[:4]:
                for places in tuples_of(sorted(tree_parts(tree)), k)[::1 if k == 1 else 7]:
                    found = self.check_runs(program, machine[2][0][0], again, tree, places)
                    self.assertIs(word_of_heads(run_heads(machine, tree, places)), found)

    def test_back_and_there_again(self):
        maker = LastMaker(463)
        many = 0
        for size in range(60):
            program = maker.program(1 + size % 2, 1, 1 + size % 2)
            for _, name, kind, names, _ in program:
                if kind == "truth":
                    machine = heads_of(program, name)
                    if machine[1] > 4:
                        continue
                    again = heads_program(machine)
                    self.assertIs(is_last(again), True)
                    for tree in TREES[:3]:
                        for places in tuples_of(sorted(tree_parts(tree)), len(names)):
                            begin = places + ("",) * (machine[1] - len(places))
                            found = run_last(again, tree, machine[2][0][0], begin)
                            self.assertIs(word_of_heads(found), answer(program, tree, (name, places)))
                            many += 1
        self.assertGreater(many, 200)

    def test_large_trees(self):
        program = read("fun f(x, y): truth = if empty(y) then (if empty(x) then has(up(x), b) else f(right(x), top)) else f(x, right(y))")
        source = random.Random(467)
        for tree in (chain("r" * 40), random_tree(source, 60), chain("r" * 20, "b")):
            machine = self.check_form(program, "f")
            self.check_runs(program, "f", machine, tree, ("", ""))


class Errors(unittest.TestCase):
    LAST = read("fun f(x): truth = empty(x) or f(up(x)) fun g(): place = top fun h(): truth = yes")

    def test_heads_program(self):
        for thing in ODD_VALUES + [("heads", 0, ()), ("heads", 1, FINDB[2][:1])]:
            check_raises(self, "BadMachine", thing, heads_program, thing)

    def test_bad_program(self):
        for thing in ODD_VALUES + [read("fun f(x): truth = g(x)"), FINDB]:
            if thing != ():
                check_raises(self, "BadProgram", thing, heads_of, thing, "f")

    def test_not_last(self):
        for text, paper in CHOOSING:
            check_raises(self, "NotLast", paper, heads_of, read(text), "f")
            check_raises(self, "NotLast", paper, heads_of, read(text), None)

    def test_bad_name(self):
        for name in ["g", "x", "F", "", "f ", None, 0, True, ("f",), ["f"], {"f": 1}, "yes"] + ODD_VALUES:
            if name != "f":
                check_raises(self, "BadName", name, heads_of, self.LAST, name)
                check_raises(self, "BadName", name, heads_of, (), name)
        check_raises(self, "BadName", "f", heads_of, (), "f")

    def test_order(self):
        within = read("fun f(x): truth = not f(x)")
        good = {"program": self.LAST, "name": "f"}
        check_order(self, heads_of, good, {"program": (["f"], "BadProgram", ["f"]), "name": ("g", "BadName", "g")})
        check_order(self, heads_of, good, {"program": (within, "NotLast", ("within", "f", (1,))), "name": (0, "BadName", 0)})
