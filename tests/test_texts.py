"""Texts of scripts: point [2.2]."""

import random
import unittest

from eyesonly.terms import is_script
from eyesonly.texts import read, written
from tests.helpers import ODD_VALUES, changed, check_raises
from tests.programs import ProgramMaker, random_script

X = ("name", "x")
Y = ("name", "y")

# Where there are brackets: the word of a term, the position of a part of it, and the word of this part.
BRACKETS = {
    ("not", 1, "and"), ("not", 1, "or"), ("not", 1, "if"),
    ("and", 1, "or"), ("and", 1, "if"), ("and", 2, "and"), ("and", 2, "or"), ("and", 2, "if"),
    ("or", 1, "if"), ("or", 2, "or"), ("or", 2, "if"),
    ("if", 1, "if"), ("if", 2, "if"),
}

# A term of each kind, and its text.
TEXTS = {
    ("name", "x"): "x", ("top",): "top", ("yes",): "yes", ("no",): "no", ("left", X): "left(x)",
    ("right", X): "right(x)", ("up", X): "up(x)", ("empty", X): "empty(x)", ("has", X, "tag"): "has(x, tag)",
    ("has", X, "or"): "has(x, or)", ("same", X, Y): "same(x, y)", ("call", "f", ()): "f()", ("call", "f", (X,)): "f(x)",
    ("call", "f", (X, Y, ("top",))): "f(x, y, top)", ("either", X, Y): "either(x, y)", ("not", X): "not x",
    ("and", X, Y): "x and y", ("or", X, Y): "x or y", ("if", X, Y, ("no",)): "if x then y else no",
}


def script_of(term):
    return (("fun", "f", "truth", (), term),)


def text_of(term):
    return written(script_of(term))[len("fun f(): truth = "):]


def put_in(term, at, part):
    """A term with another part at a position, or, in a call, as the only term."""
    if term[0] == "call":
        return ("call", term[1], (part,))
    return term[:at] + (part,) + term[at + 1:]


def term_by_words(term, around=None):
    """[2.2], said once more; around is the word and the position of the part in the term around this one."""
    word = term[0]
    parts = [term_by_words(part, (word, at)) for at, part in enumerate(term) if isinstance(part, tuple) and word != "call"]
    if word == "name":
        text = term[1]
    elif word in ("and", "or"):
        text = parts[0] + " " + word + " " + parts[1]
    elif word == "not":
        text = "not " + parts[0]
    elif word == "if":
        text = f"if {parts[0]} then {parts[1]} else {parts[2]}"
    elif word == "call":
        text = term[1] + "(" + ", ".join(term_by_words(part, (word, 2)) for part in term[2]) + ")"
    elif word == "has":
        text = f"has({parts[0]}, {term[2]})"
    else:
        text = word + ("(" + ", ".join(parts) + ")" if parts else "")
    return f"({text})" if around is not None and around + (word,) in BRACKETS else text


class Written(unittest.TestCase):
    def test_each_kind_of_term(self):
        for term, text in TEXTS.items():
            self.assertEqual(text_of(term), text)

    def test_every_pair_on_every_side(self):
        for outer in TEXTS:
            positions = [at for at, part in enumerate(outer) if isinstance(part, tuple)]
            for at in positions:
                for inner, inner_text in TEXTS.items():
                    term = put_in(outer, at, inner)
                    text = text_of(term)
                    has_brackets = "(" + inner_text + ")" in text and outer[0] in ("not", "and", "or", "if")
                    self.assertEqual(has_brackets, (outer[0], at, inner[0]) in BRACKETS, text)
                    self.assertEqual(read("fun f(): truth = " + text), script_of(term))

    def test_pairs_spelled_out(self):
        a, b, c = ("name", "a"), ("name", "b"), ("name", "c")
        choose = ("if", a, b, c)
        cases = [
            (("not", ("and", a, b)), "not (a and b)"), (("not", ("or", a, b)), "not (a or b)"),
            (("not", choose), "not (if a then b else c)"), (("not", ("not", a)), "not not a"),
            (("and", ("not", a), ("not", b)), "not a and not b"), (("and", ("and", a, b), c), "a and b and c"),
            (("and", a, ("and", b, c)), "a and (b and c)"), (("and", ("or", a, b), c), "(a or b) and c"),
            (("and", a, ("or", b, c)), "a and (b or c)"), (("and", choose, a), "(if a then b else c) and a"),
            (("and", a, choose), "a and (if a then b else c)"), (("or", ("or", a, b), c), "a or b or c"),
            (("or", a, ("or", b, c)), "a or (b or c)"), (("or", ("and", a, b), c), "a and b or c"),
            (("or", a, ("and", b, c)), "a or b and c"), (("or", choose, a), "(if a then b else c) or a"),
            (("or", a, choose), "a or (if a then b else c)"), (("or", ("not", a), b), "not a or b"),
            (("if", choose, a, b), "if (if a then b else c) then a else b"),
            (("if", a, choose, b), "if a then (if a then b else c) else b"),
            (("if", a, b, choose), "if a then b else if a then b else c"),
            (("if", ("or", a, b), ("and", a, b), ("or", b, c)), "if a or b then a and b else b or c"),
            (("left", ("and", a, b)), "left(a and b)"), (("either", choose, ("or", a, b)), "either(if a then b else c, a or b)"),
            (("call", "f", (choose, ("not", a))), "f(if a then b else c, not a)"),
            (("same", ("or", a, b), choose), "same(a or b, if a then b else c)"),
            (("has", ("or", a, b), "a"), "has(a or b, a)"),
        ]
        for term, text in cases:
            self.assertEqual(text_of(term), text)

    def test_functions_and_scripts(self):
        one = ("fun", "f", "place", (), ("top",))
        two = ("fun", "g_2", "truth", ("x", "y"), ("same", X, Y))
        self.assertEqual(written(()), "")
        self.assertEqual(written((one,)), "fun f(): place = top")
        self.assertEqual(written(script=(one, two)), "fun f(): place = top\nfun g_2(x, y): truth = same(x, y)")
        self.assertEqual(written((two, two))[-1], ")")

    def test_scripts_that_do_not_fit(self):
        script = (("fun", "f", "place", ("x", "x"), ("not", ("left", ("yes",)))), ("fun", "f", "truth", (), X))
        self.assertEqual(written(script), "fun f(x, x): place = not left(yes)\nfun f(): truth = x")

    def test_random_scripts(self):
        source = random.Random(7)
        for size in range(300):
            script = random_script(source, size % 4, 1 + size % 6)
            lines = [
                f"fun {name}({', '.join(names)}): {kind} = {term_by_words(body)}" for _, name, kind, names, body in script
            ]
            self.assertEqual(written(script), "\n".join(lines))
            self.assertEqual(read(written(script)), script)

    def test_deep_terms(self):
        for word in ("not", "left", "and", "or", "if"):
            term = X
            for _ in range(24):
                term = {"not": ("not", term), "left": ("left", term), "if": ("if", X, X, term)}.get(word, (word, X, term))
            self.assertEqual(text_of(term), term_by_words(term))
            self.assertEqual(read("fun f(): truth = " + text_of(term)), script_of(term))

    def test_bad_script(self):
        script = ProgramMaker(1, True).program(2, 2, 2)
        for thing in ODD_VALUES + list(changed(script)):
            if not is_script(thing):
                check_raises(self, "BadScript", thing, written, thing)
        check_raises(self, "BadScript", [], written, script=[])
