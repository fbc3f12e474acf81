"""The compiler: points [9.1], [9.2] and [9.3], and what the guarantee [0.3] says of it."""

import random
import unittest

from eyesonly.bounds import bound
from eyesonly.code import is_accepted, judge_code
from eyesonly.codebounds import code_bound
from eyesonly.compiler import call_number, code_map, compiled
from eyesonly.kinds import is_program
from eyesonly.machines import run_plain
from eyesonly.meaning import run
from eyesonly.tables import answer
from eyesonly.tabling import run_table
from eyesonly.texts import read
from tests.helpers import ODD_VALUES, chain, check_raises, same_value
from tests.machines import compiled_by_words, made_by_words
from tests.programs import ProgramMaker, all_calls, small_trees

T = ("a", ("b", None, None), None)


def thing_at(value, path):
    """What stands at a path."""
    for at in path:
        value = value[at]
    return value


class Compiled(unittest.TestCase):
    def check(self, program, rows=None, registers=None, paths=None):
        """The code, in which the first function has these rows, but for the last one, and registers and paths."""
        code, found = compiled(program), code_map(program)
        self.assertTrue(same_value(code, compiled_by_words(program)), (program, code))
        self.assertTrue(same_value(found, tuple(tuple(path for _, path in made) for made in made_by_words(program))), program)
        self.assertIs(is_accepted(code), True)
        for function, (kind, many, _, made), ways in zip(program, code, found):
            self.assertEqual((kind, many, len(made)), (function[2], len(function[3]), len(ways)))
            for row, path in zip(made[:-1], ways):
                self.check_origin(row, thing_at(function[4], path))
            self.assertEqual((made[-1], ways[-1]), (("give", many), ()))
        if rows is not None:
            self.assertEqual(code[0][3][:-1], tuple(rows))
        if registers is not None:
            self.assertEqual(code[0][2], registers)
        if paths is not None:
            self.assertEqual(found[0], tuple(paths) + ((),))

    def check_origin(self, row, term):
        words = {"move": ("name",), "unless": ("and", "or", "if"), "skip": ("or", "if")}
        self.assertIn(term[0], words.get(row[0], (row[0],)))

    def body(self, text, rows, registers, paths, head="fun f(x): truth = "):
        """The body of a function with one name, whose rows are compiled into register 1."""
        more = " fun none(): place = top fun two(a, b): truth = same(a, b) fun id(a): place = a fun three(a, b, c): truth = yes"
        self.check(read(head + text + more), rows, registers, paths)

    def test_the_script_without_functions(self):
        self.assertEqual(compiled(()), ())
        self.assertEqual(code_map(()), ())

    def test_rows_without_parts(self):
        for text, row in (("x", ("move", 1, 0)), ("top", ("top", 1))):
            self.body(text, [row], 2, [()], "fun f(x): place = ")
        for text in ("yes", "no"):
            self.body(text, [(text, 1)], 2, [()])

    def test_rows_with_one_part(self):
        for word in ("left", "right", "up"):
            self.body(word + "(x)", [("move", 1, 0), (word, 1, 1)], 2, [(1,), ()], "fun f(x): place = ")
        self.body("has(x, if)", [("move", 1, 0), ("has", 1, 1, "if")], 2, [(1,), ()])
        self.body("empty(left(top))", [("top", 1), ("left", 1, 1), ("empty", 1, 1)], 2, [(1, 1), (1,), ()])
        self.body("not not yes", [("yes", 1), ("not", 1, 1), ("not", 1, 1)], 2, [(1, 1), (1,), ()])

    def test_same(self):
        self.body("same(x, up(x))", [("move", 1, 0), ("move", 2, 0), ("up", 2, 2), ("same", 1, 1, 2)], 3, [(1,), (2, 1), (2,), ()])

    def test_and(self):
        self.body("yes and no", [("yes", 1), ("unless", 1, 3), ("no", 1)], 2, [(1,), (), (2,)])
        self.body("yes and no and yes", [("yes", 1), ("unless", 1, 3), ("no", 1), ("unless", 1, 5), ("yes", 1)], 2,
                  [(1, 1), (1,), (1, 2), (), (2,)])
        self.body("yes and (no and yes)", [("yes", 1), ("unless", 1, 5), ("no", 1), ("unless", 1, 5), ("yes", 1)], 2,
                  [(1,), (), (2, 1), (2,), (2, 2)])

    def test_or(self):
        self.body("yes or no", [("yes", 1), ("unless", 1, 3), ("skip", 4), ("no", 1)], 2, [(1,), (), (), (2,)])
        self.body("yes or no or yes", [("yes", 1), ("unless", 1, 3), ("skip", 4), ("no", 1), ("unless", 1, 6), ("skip", 7), ("yes", 1)], 2,
                  [(1, 1), (1,), (1,), (1, 2), (), (), (2,)])

    def test_if(self):
        rows = [("yes", 1), ("unless", 1, 4), ("no", 1), ("skip", 6), ("move", 1, 0), ("empty", 1, 1)]
        self.body("if yes then no else empty(x)", rows, 2, [(1,), (), (2,), (), (3, 1), (3,)])
        rows = [("move", 1, 0), ("empty", 1, 1), ("unless", 1, 5), ("top", 1), ("skip", 6), ("move", 1, 0)]
        self.body("if empty(x) then top else x", rows, 2, [(1, 1), (1,), (), (2,), (), (3,)], "fun f(x): place = ")

    def test_and_or_and_if_in_one_another(self):
        rows = [("yes", 1), ("unless", 1, 3), ("no", 1), ("unless", 1, 5), ("skip", 6), ("yes", 1)]
        self.body("yes and no or yes", rows, 2, [(1, 1), (1,), (1, 2), (), (), (2,)])
        rows = [("yes", 1), ("unless", 1, 3), ("skip", 6), ("no", 1), ("unless", 1, 6), ("yes", 1)]
        self.body("yes or no and yes", rows, 2, [(1,), (), (), (2, 1), (2,), (2, 2)])
        rows = [("yes", 1), ("unless", 1, 3), ("no", 1), ("unless", 1, 9), ("yes", 1), ("unless", 1, 7), ("skip", 8), ("no", 1), ("skip", 12),
                ("no", 1), ("unless", 1, 12), ("yes", 1)]
        self.body("if yes and no then yes or no else no and yes", rows, 2,
                  [(1, 1), (1,), (1, 2), (), (2, 1), (2,), (2,), (2, 2), (), (3, 1), (3,), (3, 2)])
        for one in ("{0} and {1}", "{0} or {1}", "if {0} then {1} else {2}"):
            for other in ("(e(x) and no)", "(yes or e(x))", "(if e(x) then yes else no)"):
                for at in range(3):
                    parts = ["e(x)", "no", "e(left(x))"]
                    parts[at] = other
                    self.check(read("fun f(x): truth = " + one.format(*parts) + " fun e(x): truth = empty(x)"))

    def test_calls(self):
        self.body("none()", [("call", 1, 1, ())], 2, [()], "fun f(x): place = ")
        self.body("id(x)", [("move", 1, 0), ("call", 1, 3, (1,))], 2, [(2, 0), ()], "fun f(x): place = ")
        self.body("two(x, up(x))", [("move", 1, 0), ("move", 2, 0), ("up", 2, 2), ("call", 1, 2, (1, 2))], 3, [(2, 0), (2, 1, 1), (2, 1), ()])
        self.body("f(top)", [("top", 1), ("call", 1, 0, (1,))], 2, [(2, 0), ()])
        rows = [("top", 1), ("call", 1, 3, (1,)), ("call", 2, 1, ()), ("move", 3, 0), ("call", 1, 4, (1, 2, 3))]
        self.body("three(id(top), none(), x)", rows, 4, [(2, 0, 2, 0), (2, 0), (2, 1), (2, 2), ()])
        rows = [("top", 1), ("top", 2), ("top", 3), ("call", 3, 3, (3,)), ("call", 1, 4, (1, 2, 3)), ("unless", 1, 9), ("top", 1), ("top", 2),
                ("call", 1, 2, (1, 2))]
        self.body("three(top, top, id(top)) and two(top, top)", rows, 4,
                  [(1, 2, 0), (1, 2, 1), (1, 2, 2, 2, 0), (1, 2, 2), (1,), (), (2, 2, 0), (2, 2, 1), (2,)])

    def test_names(self):
        for many in range(6):
            names = ("a", "b", "c", "d", "e")[:many]
            head = "fun f(" + ", ".join(names) + "): place = "
            self.check(read(head + "top"), [("top", many)], many + 1, [()])
            for at, name in enumerate(names):
                self.check(read(head + "left(" + name + ")"), [("move", many, at), ("left", many, many)], many + 1, [(1,), ()])
            call = "f(" + ", ".join(names) + ")"
            rows = [("move", many + at, at) for at in range(many)] + [("call", many, 0, tuple(range(many, 2 * many)))]
            self.check(read(head + call), rows, max(2 * many, many + 1), [(2, at) for at in range(many)] + [()])

    def test_registers(self):
        for text, registers in (("same(x, same2(x))", 3), ("same(f2(x), x)", 3), ("same(up(x), left(top))", 3)):
            program = read("fun f(x): truth = " + text.replace("same2", "f2") + " fun f2(x): place = x")
            self.check(program, None, registers)
        deep = "same(x, g(x, g(x, g(x, g(x, x)))))"
        self.check(read("fun f(x): truth = " + deep + " fun g(x, y): place = y"), None, 7)

    def test_deeply_nested_terms(self):
        for head, before, behind, last in (("truth", "not ", "", "yes"), ("place", "left(", ")", "x"), ("truth", "(yes and ", ")", "no"),
                                           ("truth", "(", " or no)", "no"), ("truth", "(if ", " then no else yes)", "no"), ("place", "g(x, ", ")", "x")):
            program = read(f"fun f(x): {head} = " + before * 24 + last + behind * 24 + " fun g(x, y): place = x")
            self.check(program)

    def test_random_programs(self):
        maker = ProgramMaker(179, False)
        for size in range(400):
            program = maker.program(1 + size % 6, size % 6, size % 7)
            self.check(program)
            of_code, of_program = dict(code_bound(compiled(program))), dict(bound(program))
            self.assertEqual(sorted(of_code), sorted(of_program))
            for exponent in of_code:
                self.assertLessEqual(of_code[exponent], 3 * of_program[exponent])

    def test_bounds_of_small_functions(self):
        for text in ("yes", "no", "empty(x)", "not yes", "yes and no", "yes or no", "if yes then no else yes", "same(x, x)", "f(x)", "has(top, a)"):
            program = read("fun f(x): truth = " + text)
            self.assertLessEqual(code_bound(compiled(program))[0][1], 3 * bound(program)[0][1])

    def test_many_terms(self):
        lines = []
        for at in range(40):
            lines.append(f"fun f{at}(x, y): truth = " + " and ".join([f"f{(at + k) % 40}(left(x), y)" for k in range(12)]))
        program = read("\n".join(lines))
        self.check(program)
        self.assertEqual(judge_code(compiled(program))[0], "accepted")


class WhatItKeeps(unittest.TestCase):
    def check_call(self, program, code, tree, call, fuel):
        f = call_number(program, call[0])
        expected = answer(program, tree, call)
        found = run_table(code, tree, f, call[1])
        self.assertEqual(found[0], "endless" if expected is None else "given")
        if expected is not None:
            self.assertTrue(same_value(found[1], expected))
        plain = run(program, tree, call, "", fuel)
        rows = run_plain(code, tree, f, call[1], 3 * fuel)
        if plain[0] == "outcome":
            self.assertTrue(same_value(rows[:2], ("given", plain[1])))
            self.assertLessEqual(rows[2], 3 * plain[2])
        elif expected is None:
            self.assertEqual(rows, ("out",))
        return plain[0]

    def test_random_programs(self):
        maker, source = ProgramMaker(181, False), random.Random(191)
        found = {}
        for size in range(300):
            program = maker.program(1 + size % 4, 2, 1 + size % 5)
            code, tree = compiled(program), small_trees()[size % 8]
            calls = all_calls(program, tree)
            for call in source.sample(calls, min(6, len(calls))):
                word = self.check_call(program, code, tree, call, 1500)
                found[word] = found.get(word, 0) + 1
        self.assertGreater(min(found["outcome"], found["cut"]), 50)

    def test_other_programs(self):
        texts = (
            "fun alike(x, y): truth = if empty(x) or empty(y) then empty(x) and empty(y) else has(x, a) and has(y, a) and "
            "alike(left(x), left(y)) and alike(right(x), right(y))",
            "fun f(x): truth = if empty(x) then yes else f(right(x)) and f(right(x)) fun g(x): truth = not f(x) or g(x)",
            "fun f(x): truth = g(up(x)) fun g(x): truth = h(left(x)) fun h(x): truth = not f(x)",
            "fun last(x): place = if empty(right(x)) then x else last(right(x)) fun up2(x): place = up(up(last(x)))",
        )
        for text in texts:
            program = read(text)
            for tree in (T, None, chain("rrrr"), chain("lrl", "b")):
                for call in all_calls(program, tree):
                    self.check_call(program, compiled(program), tree, call, 2000)


class CallNumbers(unittest.TestCase):
    PROGRAM = read("fun f(x): truth = either(yes, g(x)) fun g(x): truth = no fun h(): place = top")

    def test_names(self):
        for name, number in (("f", 0), ("g", 1), ("h", 2), ("x", None), ("F", None), ("", None), ("f ", None)):
            self.assertIs(call_number(self.PROGRAM, name), number)

    def test_any_value(self):
        for thing in ODD_VALUES + [("f",), ["f"], self.PROGRAM[0]]:
            self.assertIs(call_number(self.PROGRAM, thing), 0 if thing == "f" else None)
            self.assertIs(call_number((), thing), None)

    def test_numbers_are_those_of_the_code(self):
        program = self.PROGRAM[1:]
        for name in ("g", "h"):
            self.assertEqual(compiled(program)[call_number(program, name)][0], "truth" if name == "g" else "place")


class Errors(unittest.TestCase):
    CHOOSING = read("fun f(x): truth = empty(x) fun g(x): place = left(either(x, x)) fun e(): truth = either(no, no)")

    def test_bad_program(self):
        unfit = read("fun f(x): place = either(x, y)")
        for thing in ODD_VALUES + [unfit, read("fun f(x): truth = x")]:
            if not is_program(thing):
                check_raises(self, "BadProgram", thing, compiled, thing)
                check_raises(self, "BadProgram", thing, code_map, thing)
                check_raises(self, "BadProgram", thing, call_number, thing, "f")
                check_raises(self, "BadProgram", thing, call_number, thing, None)

    def test_choosing(self):
        for function in (compiled, code_map):
            check_raises(self, "Choosing", "g", function, self.CHOOSING)
            check_raises(self, "Choosing", "e", function, self.CHOOSING[::-1])
        self.assertEqual(call_number(self.CHOOSING, "e"), 2)
