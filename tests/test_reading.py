"""Reading texts of scripts: point [2.3]."""

import random
import re
import unittest

from eyesonly.terms import is_script
from eyesonly.texts import read, written
from tests.helpers import ODD_VALUES, changed_texts, check_raises, outcome_of
from tests.programs import random_script

WORDS = "fun place truth if then else either not and or yes no top left right up has empty same".split()

# The grammar of [2.2] and [2.3]. A word in small letters or a sign is a part; NAME and TAG are parts of these kinds.
GRAMMAR = {
    "Script": ["", "Script Function"],
    "Function": ["fun NAME ( Names ) : Kind = Term"],
    "Names": ["", "SomeNames"], "SomeNames": ["NAME", "SomeNames , NAME"],
    "Kind": ["place", "truth"],
    "Term": ["UpToOr", "if UpToOr then UpToOr else Term"],
    "UpToOr": ["UpToAnd", "UpToOr or UpToAnd"],
    "UpToAnd": ["UpToNot", "UpToAnd and UpToNot"],
    "UpToNot": ["Closed", "not UpToNot"],
    "Closed": [
        "( Term )", "NAME", "NAME ( Terms )", "top", "yes", "no", "left ( Term )", "right ( Term )", "up ( Term )",
        "empty ( Term )", "has ( Term , TAG )", "same ( Term , Term )", "either ( Term , Term )",
    ],
    "Terms": ["", "SomeTerms"], "SomeTerms": ["Term", "SomeTerms , Term"],
}
RULES = {head: [tuple(line.split()) for line in lines] for head, lines in GRAMMAR.items()}


def parts_by_words(text):
    """The parts of a string."""
    return re.findall("[a-z0-9_]+|[^a-z0-9_ \n]", text)


def fits(kind, part):
    """Whether a part is of a kind of parts."""
    if kind == "NAME":
        return bool(re.fullmatch("[a-z][a-z0-9_]{0,19}", part)) and part not in WORDS
    if kind == "TAG":
        return bool(re.fullmatch("[a-z]{1,8}", part))
    return kind == part


class Charts:
    """An Earley recognizer: which beginnings can be gone on with. It keeps what it has found, by the parts."""

    def __init__(self):
        self.known = {(): [self.filled([("Script", rule, 0, 0) for rule in RULES["Script"]], [], 0)]}

    def filled(self, items, charts, here):
        """All items at a place; an item is a head, a rule, how much of it was met, and where it began."""
        found = dict.fromkeys(items)
        waiting = list(items)
        while waiting:
            head, rule, done, start = waiting.pop()
            if done < len(rule):
                more = [(rule[done], other, 0, here) for other in RULES.get(rule[done], [])]
                # No rule but the empty ones and Script is met with nothing, so these are gone over at once.
                if () in RULES.get(rule[done], []):
                    more.append((head, rule, done + 1, start))
            else:
                before = charts[start] if start < here else found
                more = [(h, r, d + 1, s) for h, r, d, s in list(before) if d < len(r) and r[d] == head]
            for item in more:
                if item not in found:
                    found[item] = None
                    waiting.append(item)
        return found

    def charts(self, parts):
        """The items before each part and at the end."""
        if parts not in self.known:
            before = self.charts(parts[:-1])
            items = [(h, r, d + 1, s) for h, r, d, s in before[-1] if d < len(r) and fits(r[d], parts[-1])]
            self.known[parts] = before + [self.filled(items, before, len(parts))]
        return self.known[parts]

    def expected(self, parts):
        """None if the parts are those of a text, otherwise where they go wrong."""
        for at in range(1, len(parts) + 1):
            if not self.charts(parts[:at])[-1]:
                return at - 1
        whole = any(h == "Script" and d == len(r) and s == 0 for h, r, d, s in self.charts(parts)[-1])
        return None if whole else len(parts)


CHARTS = Charts()


class Reading(unittest.TestCase):
    def check(self, text):
        """What read does with a text is what the grammar says; the script has the text, but for further brackets."""
        expected = CHARTS.expected(tuple(parts_by_words(text)))
        kind, *found = outcome_of(read, text)
        if expected is None:
            self.assertEqual(kind, "returned", text)
            self.assertTrue(is_script(found[0]))
            without = [part for part in parts_by_words(text) if part not in "()"]
            self.assertEqual([part for part in parts_by_words(written(found[0])) if part not in "()"], without)
        else:
            self.assertEqual((kind, found), ("raised", ["BadText", expected]), text)

    def check_parts(self, parts):
        self.check(" ".join(parts))

    def test_there_and_back(self):
        source = random.Random(13)
        for size in range(300):
            script = random_script(source, size % 5, 1 + size % 5)
            self.assertEqual(read(text=written(script)), script)

    def test_blanks_and_line_feeds(self):
        source = random.Random(17)
        for size in range(100):
            script = random_script(source, 1 + size % 3, 1 + size % 4)
            parts = parts_by_words(written(script))
            wide, narrow = "", ""
            for part in parts:
                between = " " if narrow and (narrow[-1] + part[0]).replace("_", "a").isalnum() else ""
                narrow += between + part
                wide += source.choice(("", " ", "\n", "  ", " \n \n")) + between + part
            self.assertEqual(read(wide), script)
            self.assertEqual(read(" \n" + wide + "\n"), script)
            self.assertEqual(read(narrow), script)
            self.assertEqual(read(narrow.replace(" ", "\n")), script)

    def test_further_brackets(self):
        source = random.Random(19)
        for size in range(150):
            script = random_script(source, 1, 1 + size % 5)
            self.assertEqual(read(bracketed_script(script, lambda: 1 + source.randrange(3))), script)
        self.assertEqual(read("fun f(x): truth = " + "(" * 60 + "x" + ")" * 60), read("fun f(x): truth = x"))
        nested = "((left((((up(((x)))))))))"
        self.assertEqual(read("fun f(x): place = " + nested), read("fun f(x): place = left(up(x))"))

    def test_brackets_decide(self):
        a, b, c = ("name", "a"), ("name", "b"), ("name", "c")
        cases = {
            "a and b and c": ("and", ("and", a, b), c), "a and (b and c)": ("and", a, ("and", b, c)),
            "a or b or c": ("or", ("or", a, b), c), "a or (b or c)": ("or", a, ("or", b, c)),
            "a or b and c": ("or", a, ("and", b, c)), "(a or b) and c": ("and", ("or", a, b), c),
            "a and b or c": ("or", ("and", a, b), c), "not a and b": ("and", ("not", a), b),
            "not (a and b)": ("not", ("and", a, b)), "not not a or b": ("or", ("not", ("not", a)), b),
            "if a then b else c and a": ("if", a, b, ("and", c, a)), "if a then b else c or a": ("if", a, b, ("or", c, a)),
            "(if a then b else c) and a": ("and", ("if", a, b, c), a),
            "if a then b else if b then c else a": ("if", a, b, ("if", b, c, a)),
            "if a or b then b and c else not a": ("if", ("or", a, b), ("and", b, c), ("not", a)),
            "a and not b and c": ("and", ("and", a, ("not", b)), c), "(((a)))": a,
        }
        for text, term in cases.items():
            self.assertEqual(read("fun f(a, b, c): truth = " + text)[0][4], term)

    def test_words_as_tags(self):
        for word in WORDS + ["a", "abcdefgh"]:
            self.assertEqual(read(f"fun f(x): truth = has(x, {word})")[0][4], ("has", ("name", "x"), word))
        for part in ("abcdefghi", "a1", "a_", "1", "_", "(", ",", ")", "A", ":"):
            check_raises(self, "BadText", 12, read, f"fun f(x): truth = has(x, {part})")

    def test_no_string(self):
        for thing in ODD_VALUES + [["fun"], b"fun"]:
            if not isinstance(thing, str):
                check_raises(self, "BadText", -1, read, thing)
        check_raises(self, "BadText", -1, read, text=None)

    def test_texts_without_functions(self):
        for text in ("", " ", "\n", " \n\n  "):
            self.assertEqual(read(text), ())

    def test_places_of_errors(self):
        head = "fun f(x, y): truth = "
        cases = [
            ("x", 0), ("fun", 1), ("fun f", 2), ("fun top", 1), ("fun fun", 1), ("fun f x", 2), ("fun f(", 3),
            ("fun f(,", 3), ("fun f(x", 4), ("fun f(x,", 5), ("fun f(x,)", 5), ("fun f(x y", 4), ("fun f(x)", 5),
            ("fun f(if)", 3), ("fun f(): no", 5), ("fun f():truth", 6), ("fun f():truth=", 7), ("fun f() = ", 4),
            ("fun f(): truth = x fun", 9), ("fun f(): truth = x )", 8), ("fun f(): truth = then", 7), ("Fun", 0),
            (head + "x x", 11), (head + "not", 11), (head + "not if", 11), (head + "x and if", 12), (head + "x or if", 12),
            (head + "if if", 11), (head + "if x then if", 13), (head + "if x then y else", 15), (head + "if x else", 12),
            (head + "x then", 11), (head + "left x", 11), (head + "left()", 12), (head + "left(x, y)", 13),
            (head + "same(x)", 13), (head + "same(x, y, x)", 15), (head + "has(x)", 13), (head + "has(a, a, a)", 15),
            (head + "either(x)", 13), (head + "f(x,)", 14), (head + "f(,", 12), (head + "f(x y", 13), (head + "top()", 11),
            (head + "x and and", 12), (head + "and", 10), (head + "()", 11), (head + "(x", 12), (head + "(x))", 13),
            (head + "(f)(x)", 13), (head + "x = y", 11), (head + "x : y", 11), (head + "place", 10), (head + "x\ty", 11),
            (head + "1x", 10), (head + "_x", 10), (head + "x" * 21, 10), (head + "f(x" + "x" * 20 + ")", 12), (head + "x.y", 11),
            (head + "yes no", 11), (head + "x and X", 12), (head + "\xe9", 10), (head + "x-1", 11), (head + "has(x, a", 15),
            (head + "if x then y else (if x then y else x and if", 23),
        ]
        for text, at in cases:
            check_raises(self, "BadText", at, read, text)
            self.assertEqual(CHARTS.expected(tuple(parts_by_words(text))), at, text)

    def test_one_part_changed(self):
        texts = [
            "fun f(x, y): truth = if same(x, up(y)) or not has(x, a) then f(y, top) and g() else (yes or no) and no",
            "fun g(): place = either(left(x), if empty(x) then x else if x then y else z) fun h(x): truth = not (x or y)",
        ]
        others = WORDS + ["x", "f1", "1", "abcdefghi", "a" * 21, "(", ")", ",", ":", "=", "A", "-", "\t"]
        for text in texts:
            parts = parts_by_words(text)
            for at in range(len(parts) + 1):
                self.check_parts(parts[:at])
                self.check_parts(parts[:at] + parts[at + 1:])
                self.check_parts(parts[:at] + parts[at:at + 1] + parts[at:])
                self.check_parts(parts[:at] + parts[at + 1:at + 2] + parts[at:at + 1] + parts[at + 2:])
                for part in others:
                    self.check_parts(parts[:at] + [part] + parts[at:])
                    self.check_parts(parts[:at] + [part] + parts[at + 1:])

    def test_one_sign_changed(self):
        for text in ("fun f(x): truth = not (has(x, if) or x)", "fun f(): place = if x then f(y, z) else top"):
            for other in changed_texts(text, "a_0 (,=\nA~"):
                self.check(other)

    def test_random_parts(self):
        source = random.Random(23)
        parts = ["fun f(x): truth =", "x", "f(", "(", ")", ",", "and", "or", "not", "if", "then", "else", "has(x", "left("]
        for _ in range(4000):
            chosen = [source.choice(parts[1:]) for _ in range(source.randrange(1, 9))]
            self.check(parts[0] + " " + " ".join(chosen))

    def test_long_texts(self):
        head = "fun f(x): truth = "
        check_raises(self, "BadText", 8 + 2900, read, head + "(" * 2900)
        check_raises(self, "BadText", 8 + 700, read, head + "not " * 700)
        check_raises(self, "BadText", 8 + 5 * 150, read, head + "if x then x else " * 150)
        check_raises(self, "BadText", 8 + 2 * 900, read, head + "f(" * 900)
        check_raises(self, "BadText", 8 + 1001, read, head + "(" * 500 + "x" + ")" * 501)
        long = "\n".join(f"fun f{at}(x): truth = " + " and ".join(["has(x, a)"] * 70) for at in range(40))
        self.assertEqual(written(read(long)), long)


def bracketed_script(script, many):
    """The text of a script with as many brackets around each term as many() says."""
    lines = []
    for _, name, kind, names, body in script:
        lines.append(f"fun {name}({','.join(names)}):{kind}={bracketed_term(body, many)}")
    return " ".join(lines)


def bracketed_term(term, many):
    """The text of a term in which there are brackets around all terms."""
    word = term[0]
    inner = [bracketed_term(part, many) for part in (term[2] if word == "call" else term) if isinstance(part, tuple)]
    if word == "name":
        text = term[1]
    elif word in ("and", "or"):
        text = f" {word} ".join(inner)
    elif word == "not":
        text = "not " + inner[0]
    elif word == "if":
        text = "if {} then {} else {}".format(*inner)
    elif word == "call":
        text = term[1] + "(" + ",".join(inner) + ")"
    elif word == "has":
        text = f"has({inner[0]},{term[2]})"
    else:
        text = word + ("(" + ",".join(inner) + ")" if inner else "")
    count = many()
    return "(" * count + text + ")" * count
