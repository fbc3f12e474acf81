"""Questions to trees: point [12.3], and the heading "eyesonly/queries.py"."""

import random
import unittest

from eyesonly.kinds import is_program
from eyesonly.queries import found, found_pairs
from eyesonly.shelf import spine
from eyesonly.tables import lot
from eyesonly.texts import read
from tests.helpers import ODD_VALUES, chain, check_order, check_raises, random_tree, same_value
from tests.lots import Lots
from tests.programs import ProgramMaker, small_trees, tree_parts, tuples_of

T = ("a", ("b", None, None), None)


class Found(unittest.TestCase):
    def check(self, program, tree, name, expected=None):
        """What is found, by the lots of all calls."""
        many = {function[1]: len(function[3]) for function in program}[name]
        result = (found if many == 1 else found_pairs)(program, tree, name)
        lots = Lots(program, tree).lots
        rows = [row for row in sorted(tuples_of(sorted(tree_parts(tree)), many)) if True in lots[name, row]]
        self.assertTrue(same_value(result, tuple(row[0] if many == 1 else row for row in rows)), (program, tree, name, result))
        if expected is not None:
            self.assertTrue(same_value(result, expected), (program, tree, name, result))
        return result

    def test_without_choice(self):
        program = read("fun leaf(x): truth = not empty(x) and empty(left(x)) and empty(right(x)) fun none(x): truth = no fun all(x): truth = yes fun at(x): truth = same(x, left(top))")
        tree = ("a", ("b", None, ("c", None, None)), ("d", None, None))
        self.check(program, tree, "leaf", ("lr", "r"))
        self.check(program, tree, "none", ())
        self.check(program, tree, "all", ("", "l", "ll", "lr", "lrl", "lrr", "r", "rl", "rr"))
        self.check(program, tree, "at", ("l",))
        self.check(program, None, "leaf", ())
        self.check(program, None, "all", ("",))
        self.check(program, None, "at", ("",))

    def test_pairs(self):
        program = read("fun above(x, y): truth = if same(y, top) then no else same(x, up(y)) or above(x, up(y)) fun same2(x, y): truth = same(x, y) fun one(x, y): truth = empty(y) and has(x, b)")
        self.check(program, T, "above", (("", "l"), ("", "ll"), ("", "lr"), ("", "r"), ("l", "ll"), ("l", "lr")))
        self.check(program, T, "same2", (("", ""), ("l", "l"), ("ll", "ll"), ("lr", "lr"), ("r", "r")))
        self.check(program, T, "one", (("l", "ll"), ("l", "lr"), ("l", "r")))
        self.check(program, None, "above", ())
        self.check(program, None, "same2", (("", ""),))

    def test_with_choice(self):
        program = read("fun any(x): truth = either(empty(x), has(x, b)) fun some(x, y): truth = same(either(x, up(x)), either(y, up(y))) fun down(x): truth = has(x, b) or either(down(left(x)), down(right(x)))")
        self.check(program, T, "any", ("l", "ll", "lr", "r"))
        self.check(program, T, "down", ("", "l"))
        pairs = self.check(program, T, "some")
        self.assertIn(("l", "r"), pairs)
        self.assertNotIn(("ll", "r"), pairs)

    def test_endless_calls(self):
        program = read("fun f(x): truth = has(x, b) or f(up(x)) fun g(x, y): truth = if same(x, y) then yes else if empty(y) then g(x, top) else g(x, y) fun h(x): truth = either(h(x), has(x, a))")
        self.check(program, T, "f", ("l", "ll", "lr"))
        self.check(program, T, "g")
        self.check(program, T, "h", ("",))

    def test_calls_of_one_another(self):
        program = read("fun odd(x): truth = not empty(x) and even(right(x)) fun even(x): truth = empty(x) or odd(right(x))")
        tree = chain("rrrr")
        self.check(program, tree, "even", ("", "l", "rl", "rr", "rrl", "rrrl", "rrrr"))
        self.check(program, tree, "odd", ("r", "rrr"))

    def test_random_programs(self):
        counts = {}
        for choice in (False, True):
            maker = ProgramMaker(701, choice)
            for size in range(150):
                program, tree = maker.program(1 + size % 4, 2, 1 + size % 4), small_trees()[size % 7]
                for _, name, kind, names, _ in program:
                    if kind == "truth" and len(names) in (1, 2):
                        result = self.check(program, tree, name)
                        key = (choice, len(names), bool(result))
                        counts[key] = counts.get(key, 0) + 1
        self.assertEqual(len(counts), 8)
        self.assertGreater(min(counts.values()), 10)

    def test_large_trees(self):
        program = read("fun leaf(x): truth = not empty(x) and empty(left(x)) and empty(right(x)) fun above(x, y): truth = if same(y, top) then no else same(x, up(y)) or above(x, up(y))")
        tree = random_tree(random.Random(709), 60)
        parts = tree_parts(tree)
        self.assertEqual(found(program, tree, "leaf"), tuple(sorted(place for place in parts if parts[place] and parts[place][1:] == (None, None))))
        above = [(one, other) for one in parts for other in parts if other.startswith(one) and one != other]
        self.assertEqual(found_pairs(program, tree, "above"), tuple(sorted(above)))

    def test_spines(self):
        program = read("fun hasb(x): truth = has(x, b) fun after(x, y): truth = has(x, a) and has(y, b) and same(up(y), x)")
        word = ("a", "b", "b", "a", "b")
        self.assertEqual(found(program, spine(word), "hasb"), ("r", "rr", "rrrr"))
        self.assertEqual(found_pairs(program, spine(word), "after"), (("", "r"), ("rrr", "rrrr")))

    def test_each_place_is_one_with_true_in_its_lot(self):
        program = read("fun f(x): truth = either(has(x, a), g(x)) fun g(x): truth = not f(left(x))")
        for tree in small_trees():
            for name in ("f", "g"):
                for place in tree_parts(tree):
                    self.assertEqual(place in found(program, tree, name), True in lot(program, tree, (name, (place,))))


class Errors(unittest.TestCase):
    PROGRAM = read("fun none(): truth = yes fun one(x): truth = either(yes, no) fun two(x, y): truth = yes fun three(x, y, z): truth = yes "
                   "fun p(): place = top fun p1(x): place = x fun p2(x, y): place = y")

    def test_bad_program(self):
        for thing in ODD_VALUES + [read("fun f(x): truth = g(x)"), read("fun f(x): truth = x")]:
            if not is_program(thing):
                check_raises(self, "BadProgram", thing, found, thing, T, "f")
                check_raises(self, "BadProgram", thing, found_pairs, thing, T, "f")

    def test_bad_name(self):
        others = ["none", "three", "p", "p1", "p2", "x", "One", "", "one ", None, 0, True, ("one",), ["one"], {"one": 1}] + ODD_VALUES
        for name in others + ["two"]:
            check_raises(self, "BadName", name, found, self.PROGRAM, T, name)
            check_raises(self, "BadName", name, found, (), T, name)
        for name in others + ["one"]:
            check_raises(self, "BadName", name, found_pairs, self.PROGRAM, T, name)
            check_raises(self, "BadName", name, found_pairs, (), None, name)
        self.assertEqual(found(self.PROGRAM, None, "one"), ("",))
        self.assertEqual(found_pairs(self.PROGRAM, None, "two"), (("", ""),))

    def test_order(self):
        wrong = {"program": (["f"], "BadProgram", ["f"]), "tree": (("a", None), "BadTree", ("a", None)), "name": ("three", "BadName", "three")}
        check_order(self, found, {"program": self.PROGRAM, "tree": T, "name": "one"}, wrong)
        check_order(self, found_pairs, {"program": self.PROGRAM, "tree": T, "name": "two"}, wrong)
