"""Faults of scripts and programs: points [3.1] and [3.2]."""

import random
import unittest

from eyesonly.kinds import has_choice, is_program, judge_script, script_holds
from eyesonly.terms import is_script
from eyesonly.texts import read
from tests.helpers import FEW_ODD_VALUES, ODD_VALUES, changed, check_raises
from tests.programs import ProgramMaker, random_script

PLACES = ("name", "top", "left", "right", "up")
WORDS = ("twice", "unknown", "count", "kind")


def faults_by_words(script):
    """[3.1], said once more: the set of all faults."""
    first = {}
    found = set()
    for at, (_, name, _, names, _) in enumerate(script):
        if name in first:
            found.add(("twice", (at, 1)))
        first.setdefault(name, script[at])
        found.update(("twice", (at, 3, k)) for k in range(len(names)) if names.index(names[k]) < k)
    for at, (_, _, kind, names, body) in enumerate(script):
        add_faults(found, body, kind, (at, 4), names, first)
    return found


def add_faults(found, term, kind, path, names, first):
    word = term[0]
    if word == "name":
        if term[1] not in names:
            found.add(("unknown", path))
    if word == "call":
        callee = first.get(term[1])
        if callee is None:
            found.add(("unknown", path))
        else:
            if len(callee[3]) != len(term[2]):
                found.add(("count", path))
            if callee[2] != kind:
                found.add(("kind", path))
        for at, part in enumerate(term[2]):
            add_faults(found, part, "place", path + (2, at), names, first)
        return
    if word not in ("if", "either") and kind != ("place" if word in PLACES else "truth"):
        found.add(("kind", path))
    for at, part in enumerate(term):
        if isinstance(part, tuple):
            must_be = "truth" if word in ("not", "and", "or") or (word, at) == ("if", 1) else "place"
            if word == "either" or word == "if" and at > 1:
                must_be = kind
            add_faults(found, part, must_be, path + (at,), names, first)


def all_paths(value, path=()):
    """The path of each thing in a tuple, and some next to them."""
    yield path
    yield path + (0, 0, 0)
    if isinstance(value, tuple):
        yield path + (len(value),)
        for at, item in enumerate(value):
            yield from all_paths(item, path + (at,))


def some_scripts():
    """Scripts with few and with many faults, and without."""
    source = random.Random(29)
    scripts = [(), read("fun f(x, x, x): truth = x fun f(): place = top fun f(y): truth = f(y)")]
    scripts += [random_script(source, size % 4, 1 + size % 4) for size in range(120)]
    maker = ProgramMaker(31, True)
    for size in range(25):
        program = maker.program(1 + size % 3, 2, 3)
        scripts.append(program)
        scripts += [thing for thing in changed(program, ["g", ("name", "x")]) if is_script(thing)][:40]
    return scripts


class Judging(unittest.TestCase):
    def check_holds(self, script, thing, expected):
        self.assertIs(script_holds(script, thing), expected, (script, thing))

    def test_judge_gives_a_certificate(self):
        for script in some_scripts():
            faults = faults_by_words(script)
            found = judge_script(script)
            self.assertIn(found, faults or {("fit",)})
            self.check_holds(script, found, True)
            self.assertIs(is_program(script), not faults)
            self.assertEqual(judge_script(script=script), found)

    def test_exactly_the_faults_hold(self):
        for script in some_scripts()[:90]:
            faults = faults_by_words(script)
            self.check_holds(script, ("fit",), not faults)
            for path in set(all_paths(script)):
                for word in WORDS:
                    self.check_holds(script, (word, path), (word, path) in faults)

    def test_programs_fit(self):
        for choice in (False, True):
            maker = ProgramMaker(37, choice)
            for size in range(60):
                program = maker.program(1 + size % 4, 3, 4)
                self.assertEqual(judge_script(program), ("fit",))
                self.check_holds(program, ("fit",), True)

    def test_any_value_as_thing(self):
        fit = read("fun f(x): truth = empty(x)")
        bad = read("fun f(x): place = g(y) fun g(x, x): truth = left(x)")
        certificate = ("kind", (1, 4))
        for thing in ODD_VALUES + list(changed(("fit",))):
            self.check_holds(fit, thing, thing == ("fit",) and isinstance(thing, tuple))
            self.check_holds(bad, thing, False)
        for thing in changed(certificate, FEW_ODD_VALUES + ["twice", "fit", "Kind", (1, 4), (1, 3, 1), (0, 4), 4, 3]):
            expected = thing in [("kind", (1, 4)), ("kind", (0, 4)), ("twice", (1, 3, 1))]
            if has_bool_or_list(thing):
                expected = False
            self.check_holds(bad, thing, expected)
        self.assertIs(script_holds(thing=certificate, script=bad), True)

    def test_no_bools_and_no_lists_in_a_certificate(self):
        bad = read("fun f(x): place = g(y) fun g(x, x): truth = left(x)")
        self.check_holds(bad, ("kind", (1, 4)), True)
        self.check_holds(bad, ("twice", (1, 3, 1)), True)
        for thing in (
            ("kind", (True, 4)), ("twice", (1, 3, True)), ("twice", (True, 3, 1)), ("kind", [1, 4]), ["kind", (1, 4)],
            ("kind", (1, 4), ()), ("kind",), ("kind", (1, 4, 0)), ("kind", (-1, 4)), ("kind", (1, -1)), ("fit", ()),
            ("count", (False, 4)), ("kind", "14"), ("kind", (1, "4")), "kind", (("kind",), (1, 4)), ["fit"], "fit", ("fit", 1),
        ):
            self.check_holds(bad, thing, False)

    def test_each_fault(self):
        cases = [
            ("fun f(): truth = yes fun f(): truth = no", {("twice", (1, 1))}),
            ("fun f(x, y, x): truth = yes", {("twice", (0, 3, 2))}),
            ("fun f(x, x, x): truth = yes", {("twice", (0, 3, 1)), ("twice", (0, 3, 2))}),
            ("fun f(x): place = y", {("unknown", (0, 4))}),
            ("fun f(x): truth = y", {("unknown", (0, 4)), ("kind", (0, 4))}),
            ("fun f(x): truth = g(x)", {("unknown", (0, 4))}),
            ("fun f(x): truth = g(y, no)", {("unknown", (0, 4)), ("unknown", (0, 4, 2, 0)), ("kind", (0, 4, 2, 1))}),
            ("fun f(x): truth = f()", {("count", (0, 4))}),
            ("fun f(x): truth = f(x, x)", {("count", (0, 4))}),
            ("fun f(x): place = f(f())", {("count", (0, 4, 2, 0))}),
            ("fun f(x): truth = x", {("kind", (0, 4))}),
            ("fun f(x): place = yes", {("kind", (0, 4))}),
            ("fun f(x): truth = empty(no)", {("kind", (0, 4, 1))}),
            ("fun f(x): truth = same(x, no)", {("kind", (0, 4, 2))}),
            ("fun f(x): truth = has(yes, a)", {("kind", (0, 4, 1))}),
            ("fun f(x): place = left(right(up(no)))", {("kind", (0, 4, 1, 1, 1))}),
            ("fun f(x): truth = not x", {("kind", (0, 4, 1))}),
            ("fun f(x): truth = x and top", {("kind", (0, 4, 1)), ("kind", (0, 4, 2))}),
            ("fun f(x): truth = no or left(no)", {("kind", (0, 4, 2)), ("kind", (0, 4, 2, 1))}),
            ("fun f(x): place = if x then x else no", {("kind", (0, 4, 1)), ("kind", (0, 4, 3))}),
            ("fun f(x): place = either(x, either(no, top))", {("kind", (0, 4, 2, 1))}),
            ("fun f(x): place = left(if yes then either(no, x) else yes)", {("kind", (0, 4, 1, 2, 1)), ("kind", (0, 4, 1, 3))}),
            ("fun f(x): truth = (if yes then x else no) and yes", {("kind", (0, 4, 1, 2))}),
            ("fun f(x): truth = g(x) fun g(y): place = y", {("kind", (0, 4))}),
            ("fun f(x): place = f(f(g())) fun g(): truth = no", {("kind", (0, 4, 2, 0, 2, 0))}),
            # Names of one function are not those of another one.
            ("fun f(x): place = y fun g(y): place = x", {("unknown", (0, 4)), ("unknown", (1, 4))}),
            # The first function of a name tells how many names it has, and its kind.
            (
                "fun f(x): truth = yes fun f(): place = f() fun g(): place = f()",
                {("twice", (1, 1)), ("count", (1, 4)), ("kind", (1, 4)), ("count", (2, 4)), ("kind", (2, 4))},
            ),
            ("fun f(f): place = f fun g(): truth = no", set()),
        ]
        for text, faults in cases:
            script = read(text)
            self.assertEqual(faults_by_words(script), faults, text)
            for path in set(all_paths(script)):
                for word in WORDS:
                    self.check_holds(script, (word, path), (word, path) in faults)

    def test_bad_script(self):
        for thing in ODD_VALUES + [[], {}, ("fit",)]:
            if not is_script(thing):
                check_raises(self, "BadScript", thing, judge_script, thing)
                check_raises(self, "BadScript", thing, judge_script, script=thing)
                check_raises(self, "BadScript", thing, script_holds, thing, ("fit",))
                check_raises(self, "BadScript", thing, script_holds, thing, None)


def has_bool_or_list(value):
    if isinstance(value, (bool, list)):
        return True
    return isinstance(value, tuple) and any(has_bool_or_list(item) for item in value)


class Programs(unittest.TestCase):
    def test_is_program_of_any_value(self):
        program = read("fun f(x): truth = empty(x) and g(x, left(x)) fun g(x, y): truth = f(y)")
        self.assertIs(is_program(program), True)
        self.assertIs(is_program(thing=()), True)
        for thing in ODD_VALUES + list(changed(program, FEW_ODD_VALUES + ["f", "g", "y", ("name", "y")])):
            expected = is_script(thing) and not faults_by_words(thing)
            self.assertIs(is_program(thing), expected)

    def test_has_choice(self):
        self.assertIs(has_choice(()), False)
        self.assertIs(has_choice(read("fun f(either_x): truth = has(either_x, either)")), False)
        for text in (
            "either(x, x)", "left(either(x, x))", "if has(either(x, x), a) then x else x", "f(either(x, x))",
            "if yes then either(x, x) else x", "if yes or not empty(up(either(x, x))) then x else x",
            "if same(x, either(x, x)) then x else x", "if yes then x else either(x, either(x, x))",
        ):
            program = read("fun e(): truth = no fun f(x): place = " + text)
            self.assertIs(has_choice(program=program), True, text)

    def test_bad_program(self):
        script = read("fun f(x): place = either(y, x)")
        for thing in ODD_VALUES + [script, list(script), read("fun f(x): truth = x")]:
            if not (is_script(thing) and not faults_by_words(thing)):
                check_raises(self, "BadProgram", thing, has_choice, thing)
                check_raises(self, "BadProgram", thing, has_choice, program=thing)
