"""Programs made of tape machines: point [11.3], the limits of part 11, and the heading "eyesonly/made.py"."""

import random
import unittest

from eyesonly.made import made
from eyesonly.tables import answer, reached
from tests.helpers import ODD_VALUES, chain, check_order, check_raises, random_tree
from tests.limits import check_code_limits, check_program_limits, check_run_limits
from tests.programs import tree_parts
from tests.standings import outcome_by_words, random_tape
from tests.test_clocked import SEEK, SWEEP

T = ("a", ("b", None, None), None)
MAIN = ("main", ())


class Made(unittest.TestCase):
    def check(self, machine, trees, c, program=None):
        """The outcomes on trees, each as often as it came; trees that are too large are left out."""
        found = {True: 0, False: 0}
        program = program or made(machine, c)
        for tree in trees:
            m = len(tree_parts(tree))
            size = m ** (2 * c) * (machine[2] + len(machine[3]) + 10)
            if size > 3000:
                continue
            expected = outcome_by_words(machine, tree, c)
            self.assertIs(answer(program, tree, MAIN), expected, (machine, c, tree))
            self.assertLessEqual(len(reached(program, tree, MAIN)), size + 20)
            if size <= 150:
                self.assertIs(check_run_limits(self, program, tree), expected)
            found[expected] += 1
        return found

    def test_the_largest_machines(self):
        source = random.Random(541)
        for size in range(20):
            machine = random_tape(source, ("abcdefgh", "if", "a"), 5, 4, 0.1)
            for c in (1, 2):
                program = made(machine, c)
                check_program_limits(self, program)
                check_code_limits(self, program)
                self.check(machine, [None, ("a", None, None), ("if", None, None), T], c, program)

    def test_rules_that_are_all_alike(self):
        # Each rule leads to the same state, writes the same sign and makes the same move, or no two of them do.
        for c in (1, 2):
            for state in range(6):
                for move in (-1, 0, 1):
                    machine = ("tape", ("a", "b", "c"), 5, (((state, 3, move),) * 5,) * 4)
                    check_program_limits(self, made(machine, c))
                    self.check(machine, [None, ("a", None, None)], c)
        rules = tuple(tuple(((p + 2 * s) % 6, (2 * p + s) % 5, (p + s) % 3 - 1) for s in range(5)) for p in range(4))
        for c in (1, 2):
            check_program_limits(self, made(("tape", ("a", "b", "c"), 5, rules), c))
            self.check(("tape", ("a", "b", "c"), 5, rules), [None, T, ("b", None, None), chain("lrl"), chain("rr", "c")], c)

    def test_all_small_machines_on_small_trees(self):
        rules = [(after, sign, move) for after in range(3) for sign in range(2) for move in (-1, 0, 1)]
        found = {True: 0, False: 0}
        for one in rules:
            for other in rules:
                machine = ("tape", (), 2, ((one, other),))
                for outcome, many in self.check(machine, [None, ("a", None, None), ("a", None, ("b", None, None))], 1).items():
                    found[outcome] += many
        self.assertGreater(min(found.values()), 200)

    def test_random_machines_with_a_clock_of_one(self):
        source = random.Random(547)
        found = {True: 0, False: 0}
        for size in range(250):
            many = size % 4
            machine = random_tape(source, ("b", "a", "if")[:many], many + 2 + (size // 4) % 2 * (many < 3), 1 + size % 4, 0.12)
            trees = [random_tree(source, nodes, ("a", "b", "c")) for nodes in range(7)]
            for outcome, times in self.check(machine, trees, 1).items():
                found[outcome] += times
        self.assertGreater(min(found.values()), 200)

    def test_random_machines_with_a_clock_of_two(self):
        source = random.Random(557)
        found = {True: 0, False: 0}
        for size in range(300):
            many = size % 3
            machine = random_tape(source, ("b", "a")[:many], many + 2 + size % 2, 1 + size % 4, 0.08)
            trees = [None] + [(tag, None, None) for tag in ("a", "b", "c")]
            for outcome, times in self.check(machine, trees, 2).items():
                found[outcome] += times
        self.assertGreater(min(found.values()), 50)

    def test_the_clock(self):
        # The machine counts its steps, and ends with yes after as many as it has states.
        for c in (1, 2):
            for many in range(1, 5):
                machine = ("tape", (), 2, tuple(((at + 1, 0, 0),) * 2 for at in range(many)))
                self.check(machine, [None, ("a", None, None), T, chain("rr"), chain("lrl")], c)

    def test_a_counter_on_the_tape(self):
        # The signs 1 and 2 are figures: the machine counts up in binary, and ends with yes when the number is too long.
        counter = ("tape", ("a",), 3, (((1, 1, -1), (0, 1, 1), (1, 2, -1)), ((2, 2, 0), (1, 1, -1), (1, 2, -1))))
        for c in (1, 2):
            self.check(counter, [None, ("a", None, None), ("b", None, None), T, chain("ll", "a"), chain("lrl", "b"), chain("rrrr")], c)

    def test_both_ends_of_the_tape(self):
        for move in (-1, 1):
            for sign in (0, 1, 2):
                stay = tuple((1 if at == sign else 0, (at + 1) % 3, move) for at in range(3))
                machine = ("tape", ("b",), 3, (stay, ((1, 2, 0), (2, 0, -move), (0, 1, -move))))
                for c in (1, 2):
                    self.check(machine, [None, ("a", None, None), ("b", None, None), T, chain("rl", "b"), chain("lll")], c)

    def test_trees_of_several_forms(self):
        source = random.Random(563)
        trees = [chain(letters, tag) for letters in ("l", "r", "lr", "rl", "lllll", "rrrrr", "lrlrl", "rlrlr") for tag in ("a", "b")]
        trees += [random_tree(source, 5, ("a", "b")) for _ in range(10)]
        # The head goes from place to place in their order, so that it finds the last tag, too.
        for machine in (SEEK, SWEEP, ("tape", ("b",), 3, (((0, 0, 1), (1, 2, 1), (0, 2, 1)), ((1, 0, 1), (2, 1, 0), (1, 2, 1))))):
            found = self.check(machine, trees, 1)
            self.assertGreater(sum(found.values()), 20)

    def test_a_clock_of_one_up_to_the_limit(self):
        source = random.Random(569)
        for nodes in range(8):
            tree = random_tree(source, nodes, ("a", "b"))
            for machine in (SEEK, SWEEP):
                self.check(machine, [tree], 1)

    def test_tags_that_are_words(self):
        machine = ("tape", ("if", "top", "fun"), 5, (((0, 0, 1), (0, 1, 1), (1, 2, 1), (0, 3, 1), (0, 4, 1)), ((1, 0, 1), (2, 1, 0), (1, 2, 1), (1, 3, 1), (3, 4, 0))))
        trees = [("top", None, ("if", None, None)), ("if", ("top", None, None), None), ("top", ("x", None, None), ("if", None, None)), ("fun", None, None), None]
        for c in (1, 2):
            self.check(machine, trees, c)

    def test_a_larger_clock(self):
        program = made(SEEK, 3)
        for tree in (None, ("a", None, None), ("b", None, None)):
            self.assertIs(answer(program, tree, MAIN), outcome_by_words(SEEK, tree, 3))

    def test_the_same_again(self):
        self.assertEqual(made(SEEK, 2), made(SEEK, 2))


class Errors(unittest.TestCase):
    def test_bad_machine(self):
        for thing in ODD_VALUES + [("tape", ("b",), 2, SEEK[3]), SEEK[:3]]:
            check_raises(self, "BadMachine", thing, made, thing, 1)
            check_raises(self, "BadMachine", thing, made, thing, None)

    def test_bad_number(self):
        for thing in [0, -1, -10 ** 39] + [value for value in ODD_VALUES if not isinstance(value, int) or isinstance(value, bool)]:
            check_raises(self, "BadNumber", thing, made, SEEK, thing)

    def test_order(self):
        check_order(self, made, {"machine": SEEK, "c": 1}, {"machine": (("tape",), "BadMachine", ("tape",)), "c": (True, "BadNumber", True)})

