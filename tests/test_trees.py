"""Trees and places: points [1.1] and [1.2]."""

import re
import unittest

from eyesonly.trees import is_place, is_tree, led, next_place, part_at, places
from tests.helpers import ODD_VALUES, chain, changed, check_raises, same_value, some_trees

T = ("a", ("b", None, None), None)
WAYS = ("left", "right", "up", "top")


def tree_by_words(thing):
    """[1.1], said once more."""
    if thing is None:
        return True
    if not isinstance(thing, tuple) or len(thing) != 3 or not isinstance(thing[0], str):
        return False
    return bool(re.fullmatch("[a-z]{1,8}", thing[0])) and tree_by_words(thing[1]) and tree_by_words(thing[2])


def places_by_words(tree, place=""):
    """[1.2], said once more."""
    if tree is None:
        return {place: None}
    return {place: tree, **places_by_words(tree[1], place + "l"), **places_by_words(tree[2], place + "r")}


class IsTree(unittest.TestCase):
    def check(self, thing):
        self.assertIs(is_tree(thing), tree_by_words(thing), thing)

    def test_trees(self):
        for tree in some_trees():
            self.assertIs(is_tree(tree), True)

    def test_tags(self):
        good = ["a", "z", "abcdefgh", "if", "top", "zzzzzzzz"]
        bad = ["", "abcdefghi", "A", "aB", "a1", "1", "a_", "a b", " a", "a ", "a\n", "\xe9", "a\xe9", "\xb2", "`", "{"]
        for tag in good:
            self.assertIs(is_tree((tag, None, None)), True)
            self.assertIs(is_tree(("a", None, (tag, None, None))), True)
        for tag in bad + [None, True, 0, ("a",), ["a"], {"a": 1}]:
            self.assertIs(is_tree((tag, None, None)), False)
            self.assertIs(is_tree(("a", (tag, None, None), None)), False)

    def test_any_value(self):
        for thing in ODD_VALUES:
            self.check(thing)

    def test_one_part_wrong(self):
        tree = ("a", ("b", None, ("c", None, None)), ("d", None, None))
        for thing in changed(tree):
            self.check(thing)

    def test_deep_values(self):
        for bottom in (None, 0, "a", [], ("a", None), ["a", None, None]):
            thing = bottom
            for _ in range(40):
                thing = ("a", None, thing)
            self.check(thing)

    def test_by_name(self):
        self.assertIs(is_tree(thing=T), True)


class Places(unittest.TestCase):
    def test_places(self):
        for tree in some_trees():
            found = places(tree)
            self.assertEqual(found, tuple(sorted(places_by_words(tree))))
            self.assertIsInstance(found, tuple)
        self.assertEqual(places(None), ("",))
        self.assertEqual(places(tree=("a", None, None)), ("", "l", "r"))

    def test_how_many(self):
        for nodes in (40, 60):
            tree = None
            for _ in range(nodes):
                tree = ("a", None, tree)
            self.assertEqual(len(places(tree)), 2 * nodes + 1)

    def test_is_place(self):
        for tree in some_trees():
            known = places_by_words(tree)
            for place in known:
                self.assertIs(is_place(tree, place), True)
                for longer in (place + "l", place + "r", place + "x", place + "L", place + " ", "l" + place, "r" + place):
                    self.assertIs(is_place(tree, longer), longer in known)

    def test_is_place_of_any_value(self):
        for thing in ODD_VALUES:
            expected = isinstance(thing, str) and thing in ("", "l", "ll", "lr", "r")
            self.assertIs(is_place(T, thing), expected)
        for thing in (("l",), ["l"], ["l", "r"], ("",), {"l": 1}, 1, True, None):
            self.assertIs(is_place(T, thing), False)
        self.assertIs(is_place(thing="lr", tree=T), True)

    def test_part_at(self):
        for tree in some_trees():
            for place, part in places_by_words(tree).items():
                self.assertEqual(part_at(tree, place), part)
        self.assertEqual(part_at(place="l", tree=T), ("b", None, None))

    def test_long_places(self):
        for letters in ("l" * 40, "r" * 40, "lr" * 20):
            tree = chain(letters)
            self.assertIs(is_place(tree, letters), True)
            self.assertIs(is_place(tree, letters + "l"), False)
            self.assertIs(part_at(tree, letters), None)
            self.assertEqual(part_at(tree, letters[:-1]), ("a", None, None))

    def test_led(self):
        for tree in some_trees():
            for place, part in places_by_words(tree).items():
                self.assertEqual(led(tree, place, "left"), place if part is None else place + "l")
                self.assertEqual(led(tree, place, "right"), place if part is None else place + "r")
                self.assertEqual(led(tree, place, "up"), place[:-1])
                self.assertEqual(led(tree, place, "top"), "")
        self.assertEqual(led(way="up", place="lr", tree=T), "l")

    def test_ways_from_the_top(self):
        self.assertEqual([led(T, "", way) for way in WAYS], ["l", "r", "", ""])
        self.assertEqual([led(None, "", way) for way in WAYS], ["", "", "", ""])
        self.assertEqual([led(T, "r", way) for way in WAYS], ["r", "r", "", ""])
        self.assertEqual([led(T, "l", way) for way in WAYS], ["ll", "lr", "", ""])

    def test_next_place(self):
        for tree in some_trees():
            known = sorted(places_by_words(tree))
            met, place = [], ""
            while place is not None:
                met.append(place)
                place = next_place(tree, place)
            self.assertEqual(met, known)
        self.assertIs(next_place(place="r", tree=T), None)


class TreeErrors(unittest.TestCase):
    def test_bad_tree_comes_first(self):
        for thing in ODD_VALUES:
            if tree_by_words(thing):
                continue
            for other in ("", "x", None, [1]):
                check_raises(self, "BadTree", thing, is_place, thing, other)
                check_raises(self, "BadTree", thing, part_at, thing, other)
                check_raises(self, "BadTree", thing, next_place, thing, other)
                check_raises(self, "BadTree", thing, led, thing, other, "left")
                check_raises(self, "BadTree", thing, led, thing, other, other)
            check_raises(self, "BadTree", thing, places, thing)
            check_raises(self, "BadTree", thing, places, tree=thing)

    def test_bad_place_comes_before_bad_way(self):
        for thing in ODD_VALUES + ["rl", "lll", "x", "L", ["l"], ("l", "r")]:
            if isinstance(thing, str) and thing in ("", "l", "ll", "lr", "r"):
                continue
            check_raises(self, "BadPlace", thing, part_at, T, thing)
            check_raises(self, "BadPlace", thing, next_place, T, thing)
            for way in ("left", "down", None, ["up"]):
                check_raises(self, "BadPlace", thing, led, T, thing, way)

    def test_bad_way(self):
        for way in ODD_VALUES + ["down", "Left", "left ", "l", "UP", ("left",), ["top"], {"up": 1}]:
            if isinstance(way, str) and way in WAYS:
                continue
            for place in ("", "l", "ll", "r"):
                check_raises(self, "BadWay", way, led, T, place, way)
        check_raises(self, "BadWay", "down", led, way="down", tree=T, place="r")

    def test_equal_results_each_time(self):
        self.assertTrue(same_value(places(T), places(T)))
