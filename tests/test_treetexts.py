"""Texts of trees: point [1.3]."""

import itertools
import random
import re
import unittest

from eyesonly.trees import is_tree, tree_read, tree_written
from tests.helpers import ODD_VALUES, chain, changed_texts, check_raises, outcome_of, random_tree, some_trees

SIGNS = "ab-(),"


def text_by_words(tree):
    """[1.3], said once more."""
    if tree is None:
        return "-"
    tag, left, right = tree
    if left is None and right is None:
        return tag
    return tag + "(" + text_by_words(left) + "," + text_by_words(right) + ")"


def can_go_on(text):
    """Whether some text of a tree begins with a text: innermost trees are taken out, until what is left shows it.

    A finished tree that is not empty becomes T; "-" is the empty tree. What is left open ends the text.
    """
    if not re.fullmatch("[a-z(),-]*", text):
        return False
    if re.search("[a-z]{9}", text):
        return False
    text = re.sub("[a-z]+(?=[(])", "N", text)
    text = re.sub("[a-z]+(?=[,)])", "T", text)
    text = re.sub("[a-z]+$", "E", text)
    before = None
    while before != text:
        before = text
        text = re.sub("N[(](T,T|T,-|-,T)[)]", "T", text)
    # Only open nodes are left, each in the left or the right part of the one before, and the last thing that was read.
    return bool(re.fullmatch("(N[(](?:|T,|-,(?!-)))*(|T|E|-|N[(]T,[T-]|N[(]-,T)", text))


def goes_wrong_at(text, at):
    """Whether this many first signs of a text begin a text of a tree, and with the next one they do not."""
    return can_go_on(text[:at]) and (at == len(text) or not can_go_on(text[:at + 1]))


def small_trees(nodes, tags):
    """Each tree with this many nodes and these tags."""
    if nodes == 0:
        yield None
        return
    for left in range(nodes):
        for one, other in itertools.product(list(small_trees(left, tags)), list(small_trees(nodes - 1 - left, tags))):
            for tag in tags:
                yield (tag, one, other)


class TreeTexts(unittest.TestCase):
    def check(self, text):
        """A text is read as the tree that has it, or BadText tells where it goes wrong."""
        kind, *found = outcome_of(tree_read, text)
        if kind == "returned":
            self.assertTrue(is_tree(found[0]))
            self.assertEqual(text_by_words(found[0]), text)
        else:
            self.assertEqual(found[0], "BadText")
            self.assertTrue(goes_wrong_at(text, found[1]), (text, found))

    def test_written(self):
        for tree in some_trees():
            self.assertEqual(tree_written(tree), text_by_words(tree))
        self.assertEqual(tree_written(tree=("a", None, None)), "a")
        self.assertEqual(tree_written(("a", None, ("b", None, None))), "a(-,b)")
        self.assertEqual(tree_written(("a", ("b", None, None), ("c", None, None))), "a(b,c)")

    def test_there_and_back(self):
        for tree in some_trees():
            self.assertEqual(tree_read(tree_written(tree)), tree)
        source = random.Random(3)
        for _ in range(200):
            tree = random_tree(source, source.randrange(61))
            self.assertEqual(tree_read(text=tree_written(tree)), tree)

    def test_bad_tree(self):
        for thing in ODD_VALUES:
            if not is_tree(thing):
                check_raises(self, "BadTree", thing, tree_written, thing)
                check_raises(self, "BadTree", thing, tree_written, tree=thing)

    def test_no_string(self):
        for thing in ODD_VALUES + [["a"], ("a", "b"), b"a"]:
            if not isinstance(thing, str):
                check_raises(self, "BadText", -1, tree_read, thing)
                check_raises(self, "BadText", -1, tree_read, text=thing)

    def test_all_short_texts_against_all_small_trees(self):
        begun, whole = set(), set()
        for nodes in range(5):
            for tree in small_trees(nodes, ["a" * length for length in range(1, 7)]):
                text = text_by_words(tree)
                whole.add(text)
                begun.update(text[:at] for at in range(7))
        for length in range(7):
            for signs in itertools.product("a-(),", repeat=length):
                text = "".join(signs)
                self.assertEqual(can_go_on(text), text in begun, text)
                first_bad = [at for at in range(length) if text[:at + 1] not in begun]
                found = outcome_of(tree_read, text)
                if text in whole:
                    self.assertEqual(text_by_words(found[1]), text)
                else:
                    self.assertEqual(found, ("raised", "BadText", (first_bad + [length])[0]), text)

    def test_one_sign_changed(self):
        source = random.Random(5)
        trees = [None, ("abcdefgh", None, ("a", None, None)), chain("lrrl"), chain("l" * 40), chain("r" * 40)]
        trees += [random_tree(source, nodes) for nodes in (2, 3, 4, 5, 8, 13)]
        for tree in trees:
            for text in changed_texts(text_by_words(tree), "ab-(), \nA1_~"):
                self.check(text)

    def test_places_of_errors(self):
        cases = [
            ("", 0), (" ", 0), ("-a", 1), ("--", 1), ("- ", 1), ("a ", 1), ("a-", 1), ("a)", 1), ("a,", 1), ("(", 0),
            ("a(", 2), ("a()", 2), ("a(,", 2), ("a( -,a)", 2), ("a(-", 3), ("a(-)", 3), ("a(-,", 4), ("a(-,-", 4),
            ("a(-,-)", 4), ("a(-,b", 5), ("a(-,b,", 5), ("a(b,-", 5), ("a(b,-)", None), ("a(b,-)a", 6), ("a(b,-))", 6),
            ("abcdefgh", None), ("abcdefghi", 8), ("a(abcdefghi,-)", 10), ("A", 0), ("aB", 1), ("a1", 1), ("\n", 0),
            ("a(b(-,-),-)", 6), ("a(-,b(-,-))", 8), ("a(b,c(", 6), ("\xe9", 0), ("a\xe9", 1),
        ]
        for text, at in cases:
            if at is None:
                self.assertEqual(tree_written(tree_read(text)), text)
            else:
                check_raises(self, "BadText", at, tree_read, text)

    def test_long_texts(self):
        check_raises(self, "BadText", 3000, tree_read, "a(" * 1500)
        check_raises(self, "BadText", 3000, tree_read, "a(-," * 750)
        check_raises(self, "BadText", 2000, tree_read, "a(" * 1000 + ")")
        check_raises(self, "BadText", 8, tree_read, "a" * 3000)
        check_raises(self, "BadText", 1, tree_read, "-" * 3000)
        deep = "a(" * 500 + "a" + ",-)" * 500
        self.assertEqual(tree_written(tree_read(deep)), deep)
        check_raises(self, "BadText", len(deep), tree_read, deep + ")")
