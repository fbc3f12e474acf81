"""Head machines and their runs: points [10.3] and [10.4], and the heading "eyesonly/heads.py"."""

import random
import unittest

from eyesonly.heads import is_machine, run_heads
from tests.helpers import FEW_ODD_VALUES, ODD_VALUES, chain, changed, check_order, check_raises, random_tree, same_value
from tests.programs import small_trees, tree_parts, tuples_of
from tests.standings import is_machine_by_words, random_machine, run_heads_by_words

T = ("a", ("b", None, None), None)
WORD = ("a", None, ("b", None, None))
FINDB = ("heads", 1, (("go", ("empty", 0), ("no", ()), ("look", ())), ("look", ("has", 0, "b"), ("yes", ()), ("go", ((0, "right"),)))))
STAY = ("no", ())


def with_state(*state, k=2):
    """A machine of this state and another one."""
    return ("heads", k, (state, ("t", ("empty", 0), STAY, STAY)))


class Machines(unittest.TestCase):
    def check(self, expected, thing):
        self.assertIs(is_machine(thing), expected, thing)
        self.assertEqual(is_machine_by_words(thing), expected, thing)

    def test_machines(self):
        self.check(True, FINDB)
        self.check(True, ("heads", 1, (("s", ("empty", 0), STAY, STAY),)))
        self.check(True, with_state("s", ("same", 1, 0), ("t", ((0, ("to", 1)), (1, ("to", 0)))), ("s", ((1, "up"),))))
        self.check(True, with_state("s", ("same", 0, 0), ("yes", ((0, "top"), (1, "left"))), ("no", ((0, "right"),))))
        self.check(True, ("heads", 12, tuple((f"s{at}", ("has", at, "top"), (f"s{at}", ((at, ("to", at)),)), STAY) for at in range(12))))
        self.check(True, ("heads", 10 ** 39, (("s", ("empty", 10 ** 39 - 1), STAY, STAY),)))

    def test_the_form(self):
        states = FINDB[2]
        for thing in ((), ("heads",), ("heads", 1), ("heads", 1, states, ()), ["heads", 1, states], ("heads", 1, list(states)), ("tape", 1, states), ("Heads", 1, states),
                      ("heads", "1", states), ("heads", None, states), (1, "heads", states), ("heads", 1, states[0]), ("heads", 1, {}),
                      ("heads", 1, "states"), ("heads", -1, states), ("heads", True, states), ("heads", False, states)):
            self.check(False, thing)

    def test_no_states(self):
        for k in (0, 1, 5):
            self.check(False, ("heads", k, ()))

    def test_no_heads(self):
        # Each test needs a head.
        for test in (("empty", 0), ("same", 0, 0), ("has", 0, "a"), ("empty",), ("yes",), ()):
            self.check(False, ("heads", 0, (("s", test, STAY, STAY),)))

    def test_names_of_states(self):
        for name in ("s", "z", "s_", "a0", "abcdefghijklmnopqrst", "yess", "look", "heads", "tape", "to"):
            self.check(True, with_state(name, ("empty", 0), STAY, (name, ())))
        for name in ("yes", "no", "top", "left", "right", "up", "if", "fun", "has", "empty", "same", "place", "not", "", "A", "0a", "_a", "a b", "a-b",
                     "abcdefghijklmnopqrstu", None, 1, ("s",), ["s"], True, {}):
            self.check(False, with_state(name, ("empty", 0), STAY, STAY))

    def test_a_name_twice(self):
        self.check(False, with_state("t", ("empty", 0), STAY, STAY))
        self.check(False, ("heads", 1, FINDB[2] + FINDB[2][:1]))
        self.check(False, ("heads", 1, (("a", ("empty", 0), STAY, STAY), ("b", ("empty", 0), STAY, STAY), ("a", ("has", 0, "b"), ("a", ()), STAY))))

    def test_states(self):
        good = ("s", ("empty", 0), STAY, STAY)
        for state in (good[:3], good + ((),), list(good), (), None, "s", ("s",), {"s": 1}, (("empty", 0), "s", STAY, STAY), ("s", STAY, STAY, ("empty", 0))):
            self.check(False, ("heads", 1, (state,)))
            self.check(False, ("heads", 1, (("t", ("empty", 0), STAY, STAY), state)))

    def test_heads(self):
        for head, expected in ((0, True), (1, True), (2, False), (-1, False), (True, False), (False, False), (None, False), ("0", False), (10 ** 39, False), ((0,), False), ([], False)):
            for test in (("empty", head), ("has", head, "a"), ("same", head, 0), ("same", 1, head)):
                self.check(expected, with_state("s", test, STAY, STAY))
            for moves in (((head, "up"),), ((0, ("to", head)),)):
                self.check(expected, with_state("s", ("empty", 0), STAY, ("s", moves)))
                self.check(expected, with_state("s", ("empty", 0), ("no", moves), STAY))
        self.check(False, with_state("s", ("empty", 1), STAY, STAY, k=1))
        self.check(True, with_state("s", ("empty", 2), STAY, STAY, k=3))

    def test_tests(self):
        for test in ((), ("empty",), ("empty", 0, 0), ("empty", 0, "a"), ["empty", 0], ("has", 0), ("has", 0, "a", "b"), ("has", 0, "A"), ("has", 0, ""), ("has", 0, "abcdefghi"),
                     ("has", 0, 1), ("has", 0, None), ("has", 0, ["a"]), ("has", "a", 0), ("same", 0), ("same", 0, 1, 1), ["same", 0, 1], ("yes",), ("no", 0), ("not", 0), ("up", 0),
                     ("Empty", 0), "empty", None, 0, ("same", 0, "a"), ("has", ("name", "x"), "a"), (("empty", 0),), (0, "empty")):
            self.check(False, with_state("s", test, STAY, STAY))
        for tag in ("a", "abcdefgh", "yes", "top"):
            self.check(True, with_state("s", ("has", 1, tag), STAY, STAY))

    def test_moves(self):
        for move in ("top", "left", "right", "up", ("to", 0), ("to", 1)):
            self.check(True, with_state("s", ("empty", 0), ("s", ((0, move),)), STAY))
        for move in ("to", "down", "Top", "", "yes", "l", None, 0, 1, True, (), ("to",), ("to", 0, 1), ["to", 0], ("top",), ("left", 0), ("to", "0"), ("to", ("to", 0)), ["up"], {},
                     (0, "to"), ("To", 0)):
            self.check(False, with_state("s", ("empty", 0), ("s", ((0, move),)), STAY))

    def test_lists_of_moves(self):
        for moves, expected in (((), True), (((0, "up"),), True), (((0, "up"), (1, "up")), True), (((1, "up"), (0, "up")), False), (((0, "up"), (0, "up")), False),
                                (((0, "up"), (0, "left")), False), ([(0, "up")], False), (([0, "up"],), False), (((0, "up", 1),), False), (((0,),), False), ((("up", 0),), False),
                                ((0, "up"), False), (None, False), ("up", False), ((None,), False), (((0, "up"), None), False), (((0, "up"), (1, "up"), (1, "up")), False)):
            self.check(expected, with_state("s", ("empty", 0), ("s", moves), STAY))
            self.check(expected, with_state("s", ("empty", 0), STAY, ("yes", moves)))

    def test_branches(self):
        for branch in ("no", ("no",), ("no", (), ()), ["no", ()], (), None, ((), "no"), ("u", ()), ("S", ()), ("", ()), (None, ()), (("s",), ()), (["s"], ()), (0, ()), (True, ()), ({}, ()),
                       ("top", ()), ("YES", ()), ("yes ", ()), (("no", ()), ())):
            self.check(False, with_state("s", ("empty", 0), branch, STAY))
            self.check(False, with_state("s", ("empty", 0), STAY, branch))
        for after in ("s", "t", "yes", "no"):
            self.check(True, with_state("s", ("empty", 0), (after, ()), STAY))

    def test_changed_machines(self):
        source = random.Random(401)
        found = {True: 0, False: 0}
        for machine in [FINDB] + [random_machine(source, 1 + size % 3, 1 + size % 2) for size in range(5)]:
            self.check(True, machine)
            for thing in changed(machine, FEW_ODD_VALUES + ["to", "up", "s", ("to", 0), ("to", True), ("empty", 0), ("yes", ())]):
                expected = is_machine_by_words(thing)
                self.check(expected, thing)
                found[expected] += 1
        self.assertGreater(found[True], 100)
        self.assertGreater(found[False], 3000)

    def test_any_value(self):
        for thing in ODD_VALUES:
            self.check(False, thing)
            self.check(False, ("heads", thing, thing))
            for machine in (("heads", thing, FINDB[2]), ("heads", 1, thing), ("heads", 1, (thing,)), with_state(thing, ("empty", 0), STAY, STAY),
                            with_state("s", thing, STAY, STAY), with_state("s", ("empty", 0), thing, STAY), with_state("s", ("empty", 0), ("no", thing), STAY),
                            with_state("s", ("empty", 0), ("no", (thing,)), STAY), with_state("s", ("empty", 0), (thing, ()), STAY)):
                self.check(is_machine_by_words(machine), machine)


class Runs(unittest.TestCase):
    def check(self, machine, tree, places, expected=None):
        found = run_heads(machine, tree, places)
        by_words = run_heads_by_words(machine, tree, places)
        self.assertTrue(same_value(found, by_words), (machine, tree, places, found, by_words))
        if expected:
            self.assertTrue(same_value(found, expected), (machine, tree, places, found))
        return found

    def one(self, test, tree, places, truth):
        """A machine that only asks this test."""
        machine = ("heads", len(places), (("s", test, ("yes", ()), ("no", ())),))
        self.check(machine, tree, places, ("given", truth, 1))

    def test_all_tests(self):
        for place, tag in (("", "a"), ("l", "b"), ("r", None), ("lr", None)):
            for other in ("a", "b", "ab", "yes"):
                self.one(("has", 0, other), T, (place,), tag == other)
                self.one(("has", 1, other), T, ("", place), tag == other)
            self.one(("empty", 0), T, (place,), tag is None)
            self.one(("empty", 1), T, ("", place), tag is None)
            for two in ("", "l", "r", "lr"):
                self.one(("same", 0, 1), T, (place, two), place == two)
                self.one(("same", 2, 0), T, (place, "", two), place == two)
            self.one(("same", 1, 1), T, ("l", place), True)
        self.one(("has", 0, "a"), None, ("",), False)

    def move(self, moves, tree, before, after):
        """A machine that makes these moves and then goes round, so that it tells where its heads are."""
        for test, yes, no in ((("same", 0, 0), ("t", moves), ("no", ())), (("has", 0, "zz"), ("no", ()), ("t", moves))):
            machine = ("heads", len(before), (("s", test, yes, no), ("t", ("empty", 0), ("t", ()), ("t", ()))))
            self.check(machine, tree, before, ("endless", ("t", after), 1))

    def test_all_moves(self):
        parts = tree_parts(T)
        for place in parts:
            self.move(((0, "top"),), T, (place,), ("",))
            self.move(((0, "up"),), T, (place,), (place[:-1],))
            self.move(((0, "left"),), T, (place,), (place if parts[place] is None else place + "l",))
            self.move(((0, "right"),), T, (place,), (place if parts[place] is None else place + "r",))
            self.move(((0, ("to", 0)),), T, (place,), (place,))
            self.move(((1, ("to", 0)),), T, (place, "l"), (place, place))
            self.move((), T, (place, "l"), (place, "l"))

    def test_several_moves_at_once(self):
        self.move(((0, ("to", 1)), (1, ("to", 0))), T, ("l", "r"), ("r", "l"))
        self.move(((0, ("to", 1)), (1, ("to", 2)), (2, ("to", 0))), T, ("l", "r", "lr"), ("r", "lr", "l"))
        self.move(((0, "left"), (1, ("to", 0))), T, ("", "r"), ("l", ""))
        self.move(((0, ("to", 1)), (1, "up")), T, ("", "lr"), ("lr", "l"))
        self.move(((0, ("to", 2)), (1, ("to", 2)), (2, "top")), T, ("", "l", "lr"), ("lr", "lr", ""))
        self.move(((0, "right"), (1, "left"), (2, "up"), (3, "top")), T, ("", "", "lr", "l"), ("r", "l", "l", ""))

    def test_moves_of_the_last_branch_do_not_matter(self):
        machine = ("heads", 1, (("s", ("empty", 0), ("yes", ((0, "up"),)), ("no", ((0, "top"),))),))
        self.check(machine, T, ("r",), ("given", True, 1))
        self.check(machine, T, ("l",), ("given", False, 1))

    def test_numbers_of_steps(self):
        for many in range(41):
            self.check(FINDB, chain("r" * many), ("",), ("given", False, 2 * many + 1))
        self.check(FINDB, WORD, ("",), ("given", True, 4))
        self.check(FINDB, WORD, ("r",), ("given", True, 2))
        self.check(FINDB, None, ("",), ("given", False, 1))

    def test_it_starts_in_its_first_state(self):
        self.check(("heads", 1, FINDB[2][::-1]), WORD, ("",), ("given", True, 3))

    def test_a_standing_that_comes_back_late(self):
        # The first head goes down once, then the second one goes round on the way right.
        machine = ("heads", 2, (
            ("down", ("empty", 0), ("ring", ()), ("down", ((0, "right"),))),
            ("ring", ("empty", 1), ("ring", ((1, "top"),)), ("ring", ((1, "right"),))),
        ))
        for many in (1, 3, 40):
            end = "r" * many
            self.check(machine, chain(end), ("", ""), ("endless", ("ring", (end, "")), many + 1))
            self.check(machine, chain(end), ("", "r"), ("endless", ("ring", (end, "r")), many + 1))
            self.check(machine, chain(end), (end, end), ("endless", ("ring", (end, end)), many + 1))
        self.check(machine, None, ("", ""), ("endless", ("ring", ("", "")), 1))
        once = ("heads", 1, (("s", ("empty", 0), ("t", ((0, "top"),)), ("s", ((0, "left"),))), ("t", ("has", 0, "a"), ("u", ()), ("t", ())), ("u", ("same", 0, 0), ("t", ()), ("no", ()))))
        self.check(once, T, ("",), ("endless", ("t", ("",)), 2))

    def test_random_machines(self):
        source = random.Random(409)
        found = {}
        for size in range(1500):
            k = 1 + size % 4
            machine, tree = random_machine(source, k, 1 + size % 6), small_trees()[size % 8]
            places = tuple(source.choice(sorted(tree_parts(tree))) for _ in range(k))
            word, value, _ = self.check(machine, tree, places)
            key = word if word == "endless" else value
            found[key] = found.get(key, 0) + 1
        self.assertGreater(min(found[True], found[False], found["endless"]), 100)

    def test_from_all_places(self):
        source = random.Random(419)
        for size in range(40):
            machine, tree = random_machine(source, 2, 1 + size % 4), small_trees()[size % 6]
            for places in tuples_of(sorted(tree_parts(tree)), 2):
                self.check(machine, tree, places)

    def test_two_thousand_states(self):
        states = [(f"s{at}", ("empty", 0), (f"s{at + 1}", ()), ("no", ())) for at in range(1999)]
        machine = ("heads", 1, tuple(states + [("s1999", ("empty", 0), ("yes", ()), ("no", ()))]))
        self.assertIs(is_machine(machine), True)
        self.assertEqual(run_heads(machine, None, ("",)), ("given", True, 2000))
        ring = ("heads", 1, tuple(states + [("s1999", ("empty", 0), ("s7", ()), ("no", ()))]))
        self.assertEqual(run_heads(ring, None, ("",)), ("endless", ("s7", ("",)), 1993))
        self.assertEqual(run_heads(machine, T, ("",)), ("given", False, 1))

    def test_thousands_of_standings(self):
        # The second head goes through all places on the way right for each place of the first one.
        machine = ("heads", 2, (
            ("inner", ("empty", 1), ("outer", ()), ("inner", ((1, "right"),))),
            ("outer", ("empty", 0), ("yes", ()), ("inner", ((0, "right"), (1, "top")))),
        ))
        tree = chain("r" * 24)
        self.assertEqual(run_heads(machine, tree, ("", "")), ("given", True, 25 * 26))
        source = random.Random(421)
        self.assertEqual(run_heads(FINDB, random_tree(source, 60, ("a",)), ("",))[:2], ("given", False))
        twelve = ("heads", 12, (("s", ("empty", 11), ("yes", ()), ("s", tuple((at, ("to", (at + 1) % 12) if at else "right") for at in range(12)))),))
        self.check(twelve, T, ("",) * 12)
        self.check(twelve, T, ("",) * 11 + ("r",), ("given", True, 1))


class Errors(unittest.TestCase):
    def test_bad_machine(self):
        for thing in ODD_VALUES + [("heads", 1, ()), ("heads", 0, FINDB[2]), ("tape", ("b",), 3, (((0, 0, 1),) * 3,))]:
            check_raises(self, "BadMachine", thing, run_heads, thing, T, ("",))

    def test_bad_places(self):
        for places in [(), ("", ""), ("rr",), ("x",), [""], "", None, 0, ("", "l"), (None,), (["l"],), (("l",),), {"": 1}, ("L",)] + ODD_VALUES:
            if not same_value(places, ("",)):
                check_raises(self, "BadPlaces", places, run_heads, FINDB, T, places)
        check_raises(self, "BadPlaces", ("l",), run_heads, FINDB, None, ("l",))

    def test_order(self):
        good = {"machine": FINDB, "tree": T, "places": ("",)}
        wrong = {"machine": (("heads", 1, ()), "BadMachine", ("heads", 1, ())), "tree": (["a"], "BadTree", ["a"]), "places": (("", ""), "BadPlaces", ("", ""))}
        check_order(self, run_heads, good, wrong)
