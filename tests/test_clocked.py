"""Tape machines and their runs: points [11.1] and [11.2], and the heading "eyesonly/clocked.py"."""

import random
import unittest

from eyesonly.clocked import is_tape, tape_outcome, tape_standing
from tests.helpers import FEW_ODD_VALUES, ODD_VALUES, chain, changed, check_order, check_raises, random_tree, same_value
from tests.standings import is_tape_by_words, outcome_by_words, random_tape, tape_by_words

T = ("a", ("b", None, None), None)
SEEK = ("tape", ("b",), 3, (((0, 0, 1), (1, 1, 0), (0, 2, 1)),))
# Writes the sign 1 everywhere on the way right, then goes back and ends with yes.
SWEEP = ("tape", (), 2, (((0, 1, 1), (1, 1, -1)), ((2, 0, 0), (1, 1, -1))))


def one_rule(rule, signs=3, states=2, tags=("b",)):
    """A machine with this rule first, and others that end with no."""
    state = ((states + 1, 0, 0),) * signs
    return ("tape", tags, signs, ((rule,) + state[1:],) + (state,) * (states - 1))


class Machines(unittest.TestCase):
    def check(self, expected, thing):
        self.assertIs(is_tape(thing), expected, thing)
        self.assertEqual(is_tape_by_words(thing), expected, thing)

    def test_machines(self):
        self.check(True, SEEK)
        self.check(True, SWEEP)
        self.check(True, ("tape", ("b", "a", "abcdefgh"), 5, (((0, 0, 0),) * 5,)))
        self.check(True, ("tape", (), 2, (((0, 0, 0),) * 2,) * 9))
        self.check(True, ("tape", ("top", "if"), 9, (((0, 8, 0),) * 9,)))

    def test_the_form(self):
        _, tags, signs, states = SEEK
        for thing in ((), ("tape",), SEEK[:3], SEEK + ((),), list(SEEK), ("heads", tags, signs, states), ("Tape", tags, signs, states), (tags, "tape", signs, states), "tape", None,
                      ("tape", signs, tags, states), ("tape", tags, signs, states[0]), ("tape", tags, signs, states[0][0]), {"tape": SEEK}):
            self.check(False, thing)

    def test_tags(self):
        for tags in (["b"], "b", None, ("B",), ("",), ("abcdefghi",), (1,), (None,), (("b",),), (["b"],), ("b ",), {}, {"b": 1}):
            self.check(False, ("tape", tags, 3, SEEK[3]))
        self.check(False, ("tape", ("b", "b"), 4, (((0, 0, 0),) * 4,)))
        self.check(False, ("tape", ("b", "a", "b"), 5, (((0, 0, 0),) * 5,)))
        self.check(True, ("tape", ("b", "a"), 4, (((0, 0, 0),) * 4,)))

    def test_signs(self):
        for many in range(4):
            tags = ("a", "b", "c")[:many]
            for signs in range(8):
                self.check(signs >= many + 2, ("tape", tags, signs, (((0, 0, 0),) * signs,)))
        for signs in (True, False, None, "3", -1, 10 ** 39, (3,), 2, 4):
            self.check(False, ("tape", ("b",), signs, SEEK[3]))

    def test_states(self):
        rules = SEEK[3][0]
        for states in ((), None, [rules], (list(rules),), (rules[:2],), (rules + rules[:1],), (rules, rules[:2]), (rules, None), rules, "states", (rules, []), (rules, ()), {}, 1):
            self.check(False, ("tape", ("b",), 3, states))
        self.check(True, ("tape", ("b",), 3, (rules, rules)))

    def test_rules(self):
        for rule in ((0, 0), (0, 0, 0, 0), [0, 0, 0], (), None, 0, "000", (0,), ((0, 0, 0),), {"a": 0}, (None, 0, 0), (0, None, 0), (0, 0, None), ("0", 0, 0), (0, "0", 0), (0, 0, "0"),
                     (0, 0, "left"), ((0,), 0, 0), (True, 0, 0), (0, True, 0), (0, 0, True), (False, 0, 0), (0, False, 0), (0, 0, False)):
            self.check(False, one_rule(rule))

    def test_numbers_in_rules(self):
        for states in (1, 2, 4):
            for after in range(-2, 8):
                self.check(0 <= after <= states + 1, one_rule((after, 0, 0), 3, states))
        for signs in (3, 5):
            for sign in range(-2, 8):
                self.check(0 <= sign < signs, one_rule((0, sign, 0), signs))
        for move in range(-3, 4):
            self.check(-1 <= move <= 1, one_rule((0, 0, move)))
        for item in (10 ** 39, -10 ** 39):
            for rule in ((item, 0, 0), (0, item, 0), (0, 0, item)):
                self.check(False, one_rule(rule))

    def test_changed_machines(self):
        source = random.Random(503)
        found = {True: 0, False: 0}
        for machine in (SEEK, SWEEP, random_tape(source, ("b", "a"), 4, 2)):
            for thing in changed(machine, FEW_ODD_VALUES + [2, 3, ("b",), ("a", "b"), (0, 0, 0), "tape"]):
                expected = is_tape_by_words(thing)
                self.check(expected, thing)
                found[expected] += 1
        self.assertGreater(found[True], 50)
        self.assertGreater(found[False], 1500)

    def test_any_value(self):
        for thing in ODD_VALUES:
            self.check(False, thing)
            for machine in (("tape", thing, 3, SEEK[3]), ("tape", ("b",), thing, SEEK[3]), ("tape", ("b",), 3, thing), ("tape", ("b",), 3, (thing,)), one_rule(thing), one_rule((thing, 0, 0)),
                            ("tape", (thing,), 3, SEEK[3]), one_rule((0, thing, 0)), one_rule((0, 0, thing))):
                self.check(is_tape_by_words(machine), machine)


class Standings(unittest.TestCase):
    def check(self, machine, tree, c, many, expected=None):
        found = tape_standing(machine, tree, c, many)
        self.assertTrue(same_value(found, tape_by_words(machine, tree, c, many)), (machine, tree, c, many, found))
        if expected:
            self.assertTrue(same_value(found, expected), (machine, tree, c, many, found))

    def test_no_steps(self):
        self.check(SEEK, T, 1, 0, (0, 0, (2, 1, 0, 0, 0)))
        self.check(SEEK, None, 1, 0, (0, 0, (0,)))
        self.check(SEEK, None, 2, 0, (0, 0, (0,)))
        self.check(SEEK, None, 7, 0, (0, 0, (0,)))
        self.check(SEEK, ("b", None, None), 2, 0, (0, 0, (1,) + (0,) * 8))
        self.check(SEEK, T, 2, 0, (0, 0, (2, 1) + (0,) * 23))
        self.check(SEEK, ("a", None, None), 3, 0, (0, 0, (2,) + (0,) * 26))

    def test_signs_of_places(self):
        machine = ("tape", ("b", "if", "a"), 6, (((0, 0, 0),) * 6,))
        tree = ("a", ("if", ("b", None, None), ("x", None, None)), ("b", None, ("if", None, None)))
        self.check(machine, tree, 1, 0, (0, 0, (3, 2, 1, 0, 0, 4, 0, 0, 1, 0, 2, 0, 0)))
        # The same tags in another order have other signs.
        self.check(("tape", ("a", "b"), 6, machine[3]), tree, 1, 0, (0, 0, (1, 3, 2, 0, 0, 3, 0, 0, 2, 0, 3, 0, 0)))
        self.check(("tape", (), 6, machine[3]), tree, 1, 0, (0, 0, (1, 1, 1, 0, 0, 1, 0, 0, 1, 0, 1, 0, 0)))

    def test_single_steps(self):
        for after in range(4):
            for sign in range(3):
                for move in (-1, 0, 1):
                    state = tuple((after, sign, move) if at == 2 else (3, 0, 0) for at in range(3))
                    machine = ("tape", ("b",), 3, (state, ((3, 0, 0),) * 3))
                    self.check(machine, T, 1, 1, (after, 1 if move == 1 else 0, (sign, 1, 0, 0, 0)))

    def test_both_ends_of_the_tape(self):
        left = ("tape", (), 2, (((0, 1, -1), (0, 0, -1)),))
        for many in range(5):
            self.check(left, None, 1, many, (0, 0, (many % 2,)))
            self.check(left, ("a", None, None), 1, many, (0, 0, (1 - many % 2, 0, 0)))
        right = ("tape", (), 2, (((0, 1, 1), (0, 0, 1)),))
        self.check(right, None, 1, 3, (0, 0, (1,)))
        self.check(right, ("a", None, None), 1, 2, (0, 2, (0, 1, 0)))
        self.check(right, ("a", None, None), 1, 3, (0, 2, (0, 1, 1)))
        self.check(right, ("a", None, None), 1, 4, (0, 2, (0, 1, 0)))
        self.check(right, ("a", None, None), 2, 8, (0, 8, (0,) + (1,) * 7 + (0,)))
        self.check(right, ("a", None, None), 2, 9, (0, 8, (0,) + (1,) * 8))
        self.check(right, ("a", None, None), 2, 10, (0, 8, (0,) + (1,) * 7 + (0,)))

    def test_after_the_end(self):
        for many in range(4, 12):
            self.check(SEEK, T, 1, 2 if many == 4 else many, (1, 1, (2, 1, 0, 0, 0)))
        self.check(SEEK, T, 1, 200, (1, 1, (2, 1, 0, 0, 0)))
        for after in (1, 2):
            machine = ("tape", (), 2, (((after, 1, 1), (after, 0, 1)),))
            for many in (1, 2, 7):
                self.check(machine, ("a", None, None), 1, many, (after, 1, (0, 0, 0)))

    def test_there_and_back(self):
        for many, expected in ((0, (0, 0, (1, 0, 0))), (1, (1, 0, (1, 0, 0))), (2, (1, 0, (1, 0, 0)))):
            self.check(SWEEP, ("a", None, None), 1, many, expected)
        self.check(SWEEP, None, 1, 1, (0, 0, (1,)))
        self.check(SWEEP, None, 1, 2, (1, 0, (1,)))

    def test_random_machines(self):
        source = random.Random(509)
        for size in range(600):
            many = size % 4
            machine = random_tape(source, ("b", "a", "if")[:many], many + 2 + size % 2, 1 + size % 4, (0.05, 0.3)[size % 2])
            c = 1 + size % 2
            tree = random_tree(source, source.randrange(24 if c == 1 else 4), ("a", "b", "c"))
            for steps in (0, 1, 2, 3, 10, 50, 200):
                self.check(machine, tree, c, steps)

    def test_large_trees(self):
        source = random.Random(521)
        for tree in (chain("l" * 40), random_tree(source, 60)):
            self.check(SEEK, tree, 1, 200)


class Outcomes(unittest.TestCase):
    def check(self, machine, tree, c, expected=None):
        found = tape_outcome(machine, tree, c)
        self.assertIs(found, outcome_by_words(machine, tree, c), (machine, tree, c))
        if expected is not None:
            self.assertIs(found, expected, (machine, tree, c))
        return found

    def test_the_clock(self):
        # The machine ends with yes in its last step, if the last cell but one is marked, and needs one step more for the last cell.
        for c in (1, 2):
            for nodes in range(4):
                m = 2 * nodes + 1
                for many in range(1, m ** c + 3):
                    states = tuple(((at + 1, 0, 0),) * 2 for at in range(many))
                    self.check(("tape", (), 2, states), chain("l" * nodes), c, many <= m ** c - 1)

    def test_ends(self):
        for after, expected in ((0, False), (1, True), (2, False)):
            machine = ("tape", (), 2, (((after, 0, 0),) * 2,))
            self.check(machine, ("a", None, None), 1, expected)
            self.check(machine, ("a", None, None), 2, expected)
            # There is no step on the empty tree.
            self.check(machine, None, 1, False)
            self.check(machine, None, 2, False)

    def test_a_clock_of_one_and_of_two(self):
        # The head goes to the first empty cell and back again before the machine ends, which takes too long for the clock 1.
        back = ("tape", ("b",), 4, (((1, 3, -1), (0, 2, 1), (0, 2, 1), (0, 3, 1)), ((2, 0, 0), (1, 1, -1), (1, 1, -1), (1, 3, -1)), ((4, 0, 0), (2, 1, 0), (2, 2, 0), (3, 3, 0))))
        steps = ("tape", (), 2, tuple(((at + 1, 0, 0),) * 2 for at in range(4)))
        for machine in (back, steps):
            for nodes in range(4):
                for c in (1, 2):
                    self.check(machine, chain("l" * nodes, "b"), c)
        self.check(steps, ("a", None, None), 1, False)
        self.check(steps, ("a", None, None), 2, True)

    def test_examples(self):
        self.check(SEEK, T, 1, True)
        self.check(SEEK, ("a", None, None), 1, False)
        self.check(SEEK, ("b", None, None), 1, True)
        self.check(SEEK, ("a", None, ("b", None, None)), 1, True)
        self.check(SEEK, ("a", ("a", ("b", None, None), None), None), 2, True)

    def test_random_machines(self):
        source = random.Random(523)
        found = {True: 0, False: 0}
        for size in range(800):
            many = size % 4
            machine = random_tape(source, ("b", "a", "if")[:many], many + 2 + size % 2, 1 + size % 4, 0.15)
            c = 1 + size % 2
            tree = random_tree(source, source.randrange(24 if c == 1 else 4), ("a", "b", "c"))
            found[self.check(machine, tree, c)] += 1
        self.assertGreater(min(found.values()), 100)


class Errors(unittest.TestCase):
    def test_bad_machine(self):
        for thing in ODD_VALUES + [("tape", ("b",), 2, SEEK[3]), SEEK[:3], ("heads", 1, (("s", ("empty", 0), ("no", ()), ("no", ())),))]:
            check_raises(self, "BadMachine", thing, tape_standing, thing, T, 1, 0)
            check_raises(self, "BadMachine", thing, tape_outcome, thing, T, 1)

    def test_bad_numbers(self):
        for thing in [0, -1, -10 ** 39] + [value for value in ODD_VALUES if not isinstance(value, int) or isinstance(value, bool)]:
            check_raises(self, "BadNumber", thing, tape_standing, SEEK, T, thing, 3)
            check_raises(self, "BadNumber", thing, tape_outcome, SEEK, T, thing)
            if thing != 0 or isinstance(thing, bool):
                check_raises(self, "BadNumber", thing, tape_standing, SEEK, T, 1, thing)

    def test_order(self):
        good = {"machine": SEEK, "tree": T, "c": 2, "many": 5}
        wrong = {"machine": (["tape"], "BadMachine", ["tape"]), "tree": (("a",), "BadTree", ("a",)), "c": (0, "BadNumber", 0), "many": (-1, "BadNumber", -1)}
        check_order(self, tape_standing, good, wrong)
        check_order(self, tape_outcome, {name: good[name] for name in ("machine", "tree", "c")}, {name: wrong[name] for name in ("machine", "tree", "c")})
