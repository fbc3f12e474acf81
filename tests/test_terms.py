"""Names, terms and scripts: point [2.1]."""

import re
import unittest

from eyesonly.terms import is_name, is_script, is_term
from tests.helpers import FEW_ODD_VALUES, ODD_VALUES, changed

WORDS = "fun place truth if then else either not and or yes no top left right up has empty same".split()

# How many terms follow the word of a term; "has" and "call" have more than terms.
COUNTS = {
    "top": 0, "yes": 0, "no": 0, "left": 1, "right": 1, "up": 1, "empty": 1, "not": 1, "same": 2, "and": 2, "or": 2,
    "either": 2, "if": 3,
}

X = ("name", "x")
TERMS = [
    X, ("name", "a1_"), ("top",), ("left", X), ("right", X), ("up", X), ("yes",), ("no",), ("has", X, "a"),
    ("has", X, "if"), ("empty", X), ("same", X, ("top",)), ("not", X), ("and", X, X), ("or", X, X), ("call", "f", ()),
    ("call", "f", (X,)), ("call", "f", (X, ("yes",), ("call", "g", ()))), ("if", X, X, X), ("either", X, ("no",)),
]
LARGE = ("if", ("and", ("has", ("left", X), "tag"), ("not", ("same", X, ("up", X)))),
         ("call", "f_1", (("either", X, ("top",)), ("right", X))), ("or", ("yes",), ("empty", X)))


def name_by_words(thing):
    """[2.1], said once more."""
    return isinstance(thing, str) and bool(re.fullmatch("[a-z][a-z0-9_]{0,19}", thing)) and thing not in WORDS


def tag_by_words(thing):
    return isinstance(thing, str) and bool(re.fullmatch("[a-z]{1,8}", thing))


def term_by_words(thing):
    """[2.1], said once more."""
    if not isinstance(thing, tuple) or not thing or not isinstance(thing[0], str):
        return False
    word, rest = thing[0], thing[1:]
    if word == "name":
        return len(rest) == 1 and name_by_words(rest[0])
    if word == "has":
        return len(rest) == 2 and term_by_words(rest[0]) and tag_by_words(rest[1])
    if word == "call":
        if len(rest) != 2 or not name_by_words(rest[0]) or not isinstance(rest[1], tuple):
            return False
        return all(term_by_words(item) for item in rest[1])
    return word in COUNTS and len(rest) == COUNTS[word] and all(term_by_words(item) for item in rest)


def function_by_words(thing):
    if not isinstance(thing, tuple) or len(thing) != 5 or thing[0] != "fun" or not name_by_words(thing[1]):
        return False
    if thing[2] not in ("place", "truth") or not isinstance(thing[3], tuple):
        return False
    return all(name_by_words(name) for name in thing[3]) and term_by_words(thing[4])


def script_by_words(thing):
    """[2.1], said once more."""
    return isinstance(thing, tuple) and all(function_by_words(item) for item in thing)


class Names(unittest.TestCase):
    def test_names(self):
        good = ["a", "z", "x1", "x_", "a" * 20, "a" + "_" * 19, "iff", "tops", "call", "name", "main", "has_", "t0p"]
        bad = ["", "_", "1", "_a", "1a", "a" * 21, "A", "aA", "a b", "a ", " a", "a\n", "a-b", "\xe9", "a\xe9", "a\xb2", "a'"]
        for name in good:
            self.assertIs(is_name(name), True, name)
        for name in bad:
            self.assertIs(is_name(name), False, name)

    def test_words_are_no_names(self):
        self.assertEqual(len(WORDS), 19)
        for word in WORDS:
            self.assertIs(is_name(word), False)
            self.assertIs(is_name(word + "s"), True)
            self.assertIs(is_name(word[:-1]), word[:-1] not in WORDS)

    def test_any_value(self):
        for thing in ODD_VALUES + [("x",), ["x"], {"x": 1}, b"x"]:
            self.assertIs(is_name(thing), name_by_words(thing))
        self.assertIs(is_name(thing="x"), True)


class Terms(unittest.TestCase):
    def check(self, thing):
        self.assertIs(is_term(thing), term_by_words(thing), thing)

    def test_each_kind_of_term(self):
        for term in TERMS + [LARGE]:
            self.assertIs(is_term(term), True, term)
        self.assertIs(is_term(thing=X), True)

    def test_each_word_with_each_number_of_terms(self):
        for word in WORDS + ["name", "call", "may", "", "Top"]:
            for many in range(5):
                self.check((word,) + (X,) * many)

    def test_any_value(self):
        for thing in ODD_VALUES:
            self.check(thing)
            for word in ("left", "has", "same", "and", "call", "if", "name"):
                self.check((word, thing))
                self.check((word, X, thing))
                self.check((word, thing, X))
                self.check((word, thing, "a"))
                self.check((word, "f", (X, thing)))
                self.check((word, X, thing, X))

    def test_one_part_wrong(self):
        for term in TERMS:
            for thing in changed(term, ODD_VALUES[:-8]):
                self.check(thing)
        for thing in changed(LARGE):
            self.check(thing)

    def test_lists_are_no_tuples(self):
        for thing in (["top"], ("left", ["top"]), ("call", "f", [X]), ("call", "f", [])):
            self.assertIs(is_term(thing), False)

    def test_tags(self):
        for tag in WORDS + ["a", "abcdefgh"]:
            self.assertIs(is_term(("has", X, tag)), True)
        for tag in ["", "abcdefghi", "A", "a1", "a_", "a ", True, None, 1, ("a",)]:
            self.assertIs(is_term(("has", X, tag)), False)

    def test_deep_terms(self):
        for bottom in (X, ("top",), ("name", "top"), ("left",), "x", None, ["top"]):
            for word in ("left", "not", "either"):
                thing = bottom
                for _ in range(25):
                    thing = (word, X, thing) if word == "either" else (word, thing)
                self.check(thing)


class Scripts(unittest.TestCase):
    def check(self, thing):
        self.assertIs(is_script(thing), script_by_words(thing), thing)

    def test_scripts(self):
        one = ("fun", "f", "place", ("x",), X)
        for script in ((), (one,), (one, one), (("fun", "g", "truth", (), ("no",)), one), (("fun", "f", "place", ("x", "x"), ("no",)),)):
            self.assertIs(is_script(script), True)
        for term in TERMS:
            self.assertIs(is_script((("fun", "f", "place", (), term),)), True)
        self.assertIs(is_script(thing=()), True)

    def test_any_value(self):
        for thing in ODD_VALUES:
            self.check(thing)
            self.check((thing,))
            self.check(("fun", "f", "place", ("x",), thing))
            self.check((("fun", "f", "place", ("x",), thing),))
            self.check((("fun", "f", "place", thing, X),))
            self.check((("fun", "f", "place", (thing,), X),))
            self.check((("fun", "f", thing, (), X),))
            self.check((("fun", thing, "place", (), X),))
            self.check(((thing, "f", "place", (), X),))

    def test_one_part_wrong(self):
        script = (("fun", "f", "place", ("x", "y1"), LARGE), ("fun", "g", "truth", (), ("call", "f", (X, X))))
        self.assertIs(is_script(script), True)
        for thing in changed(script, FEW_ODD_VALUES + ["fun", "place", "truth", "Place", ("x",), "else", "a" * 21]):
            self.check(thing)
