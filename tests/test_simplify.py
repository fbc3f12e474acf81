"""The simplifier: points [13.1] and [13.2], the limits of part 13, and the heading "eyesonly/simplify.py"."""

import random
import unittest

from eyesonly.kinds import is_program
from eyesonly.meaning import run
from eyesonly.simplify import after_step, is_step, simplified, steps_from
from eyesonly.tables import lot
from eyesonly.texts import read, written
from tests.helpers import ODD_VALUES, changed, check_order, check_raises, same_value
from tests.limits import depth
from tests.programs import ProgramMaker, all_calls, small_trees
from tests.standings import terms_by_paths

T = ("a", ("b", None, None), None)
MORE = " fun e(x): truth = empty(x) fun s(x, y): truth = same(x, up(y)) fun p(x): place = left(x) fun n(): truth = has(top, a)"


def words_in(term):
    return [part[0] for _, part in terms_by_paths(term)]


def steps_by_words(program):
    """[13.1]: each step with the term that stands in its place then."""
    functions = {function[1]: function for function in program}
    found = {}
    for at, function in enumerate(program):
        for path, term in terms_by_paths(function[4]):
            path = (at, 4) + path
            if term[0] == "if" and term[1] in (("yes",), ("no",)):
                found["branch", path] = term[2 if term[1] == ("yes",) else 3]
            if term[0] == "call" and all(part[0] in ("name", "top") for part in term[2]):
                _, _, _, names, body = functions[term[1]]
                if "call" not in words_in(body):
                    found["inline", path] = put_in(body, dict(zip(names, term[2])))
            if term[0] in ("not", "and", "or") and set(words_in(term)) <= {"not", "and", "or", "yes", "no"}:
                found["known", path] = ("yes",) if truth_of(term) else ("no",)
            if term == ("up", ("top",)):
                found["lift", path] = ("top",)
            if term[0] == "same" and term[1] == term[2] and term[1][0] in ("name", "top"):
                found["self", path] = ("yes",)
            if term[0] == "not" and term[1][0] == "not":
                found["twice", path] = term[1][1]
    return found


def put_in(term, terms):
    if term[0] == "name":
        return terms[term[1]]
    if term[0] == "call":
        return ("call", term[1], tuple(put_in(part, terms) for part in term[2]))
    return tuple(put_in(item, terms) if isinstance(item, tuple) else item for item in term)


def truth_of(term):
    if term[0] in ("yes", "no"):
        return term[0] == "yes"
    if term[0] == "not":
        return not truth_of(term[1])
    values = (truth_of(term[1]), truth_of(term[2]))
    return all(values) if term[0] == "and" else any(values)


def changed_at(value, path, part):
    if not path:
        return part
    items = list(value)
    items[path[0]] = changed_at(value[path[0]], path[1:], part)
    return tuple(items)


def sizes(program):
    """How many terms and how many calls a program has."""
    words = [word for function in program for word in words_in(function[4])]
    return len(words), words.count("call")


class Simplifier(unittest.TestCase):
    def check(self, program, expected=None):
        """The steps, and the programs after them."""
        steps, right = steps_from(program), steps_by_words(program)
        self.assertTrue(same_value(steps, tuple(sorted(right))), (program, steps))
        for step in steps:
            self.assertIs(is_step(program, step), True)
            after = after_step(program, step)
            self.assertTrue(same_value(after, changed_at(program, step[1], right[step])), (program, step))
            self.check_kept(program, step, after)
        if expected is not None:
            self.assertEqual(steps, tuple(sorted(expected)))
        return steps

    def check_kept(self, program, step, after):
        """[13.2], as far as it can be seen without trees."""
        self.assertIs(is_program(after), True)
        self.assertEqual([function[:4] for function in after], [function[:4] for function in program])
        (terms, calls), (terms_after, calls_after) = sizes(program), sizes(after)
        if step[0] == "inline":
            self.assertLess(calls_after, calls)
        else:
            self.assertLess(terms_after, terms)
            self.assertLessEqual(calls_after, calls)

    def body(self, text, *steps, kind="truth"):
        """The steps in the body of the first function, with paths in this body."""
        program = read(f"fun f(x, y): {kind} = {text}" + MORE)
        self.check(program, [(word, (0, 4) + path) for word, path in steps])
        return program


class Branches(Simplifier):
    def test_it_applies(self):
        self.body("if yes then empty(x) else no", ("branch", ()))
        self.body("if no then x else top", ("branch", ()), kind="place")
        self.body("empty(if yes then x else y)", ("branch", (1,)))
        self.body("if empty(x) then (if no then yes else no) else has(y, a)", ("branch", (2,)))
        self.body("if yes then (if no then yes else no) else (if yes then no else yes)", ("branch", ()), ("branch", (2,)), ("branch", (3,)))

    def test_it_does_not_apply(self):
        for text in ("if empty(x) then yes else no", "if not empty(x) then yes else yes", "if (if empty(x) then yes else no) then yes else no", "if same(x, y) then no else no"):
            self.body(text)
        self.body("if not yes then empty(x) else no", ("known", (1,)))
        self.body("if yes and yes then yes else no", ("known", (1,)))

    def test_which_term_is_taken(self):
        for word, rest in (("yes", "empty(x)"), ("no", "has(x, a)")):
            program = self.body(f"if {word} then empty(x) else has(x, a)", ("branch", ()))
            self.assertEqual(written(after_step(program, ("branch", (0, 4)))), "fun f(x, y): truth = " + rest + MORE.replace(" fun", "\nfun"))


class Inlining(Simplifier):
    def after(self, text, rest, path, kind="truth", more=MORE):
        program = read(f"fun f(x, y): {kind} = {text}" + more)
        self.check(program)
        self.assertIn(("inline", (0, 4) + path), steps_from(program))
        self.assertEqual(after_step(program, ("inline", (0, 4) + path)), read(f"fun f(x, y): {kind} = {rest}" + more))

    def test_names_and_top(self):
        self.after("e(x)", "empty(x)", ())
        self.after("e(top)", "empty(top)", ())
        self.after("s(y, x)", "same(y, up(x))", ())
        self.after("s(x, x)", "same(x, up(x))", ())
        self.after("s(top, y)", "same(top, up(y))", ())
        self.after("s(top, top)", "same(top, up(top))", ())
        self.after("n()", "has(top, a)", ())
        self.after("p(y)", "left(y)", (), "place")
        self.after("right(p(top))", "right(left(top))", (1,), "place")

    def test_names_are_exchanged_at_once(self):
        more = " fun g(x, y): truth = same(left(x), y) and (empty(y) or has(x, a)) fun h(y, x): truth = if empty(y) then no else same(x, top)"
        self.after("g(y, x)", "same(left(y), x) and (empty(x) or has(y, a))", (), more=more)
        self.after("h(x, y)", "if empty(x) then no else same(y, top)", (), more=more)
        self.after("h(y, x) and yes", "(if empty(y) then no else same(x, top)) and yes", (1,), more=more)

    def test_names_that_the_body_has_not(self):
        more = " fun g(z, w): truth = empty(w) fun h(z): truth = yes fun i(a, b, c, d, e): place = c"
        self.after("g(x, y)", "empty(y)", (), more=more)
        self.after("h(x)", "yes", (), more=more)
        self.after("empty(i(x, y, top, x, y))", "empty(top)", (1,), more=more)

    def test_other_terms_of_the_call(self):
        for text in ("e(left(x))", "e(up(top))", "s(x, up(y))", "s(right(x), top)", "e(if empty(x) then x else y)", "e(either(x, y))"):
            steps = [step for step in self.check(read("fun f(x, y): truth = " + text + MORE)) if step[0] == "inline"]
            self.assertEqual(steps, [])
        self.body("e(p(x))", ("inline", (2, 0)))

    def test_a_body_with_a_call(self):
        more = " fun g(x): truth = not e(left(x)) fun e(x): truth = empty(x) fun r(x): truth = r(x) fun q(x): truth = empty(w(x)) fun w(x): place = p(up(x)) fun p(x): place = x"
        for text in ("g(x)", "r(x)", "q(x)", "empty(w(x))", "f(x, y)", "f(y, top)"):
            self.assertEqual([step for step in self.check(read("fun f(x, y): truth = " + text + more)) if step[1][0] == 0], [])
        program = read("fun f(x, y): truth = e(x) and g(y)" + more)
        self.assertEqual([step for step in self.check(program) if step[1][0] == 0], [("inline", (0, 4, 1))])

    def test_a_function_with_an_either(self):
        more = " fun c(x): truth = either(empty(x), has(x, a)) fun d(x, y): place = either(x, either(y, top))"
        self.after("c(y)", "either(empty(y), has(y, a))", (), more=more)
        self.after("same(d(x, y), d(y, top))", "same(d(x, y), either(y, either(top, top)))", (2,), more=more)

    def test_calls_within_calls(self):
        self.body("s(p(x), p(top))", ("inline", (2, 0)), ("inline", (2, 1)))
        self.body("e(x) or s(p(x), y) or n()", ("inline", (1, 1)), ("inline", (1, 2, 2, 0)), ("inline", (2,)))

    def test_later_and_earlier_functions(self):
        program = read("fun e(x): truth = empty(x) fun f(x): truth = e(x) and g(x) fun g(x): truth = has(x, a)")
        self.check(program, [("inline", (1, 4, 1)), ("inline", (1, 4, 2))])


class Known(Simplifier):
    def test_all_forms(self):
        for one in ("yes", "no"):
            program = self.body("not " + one, ("known", ()))
            self.assertEqual(after_step(program, ("known", (0, 4)))[0][4], ("no",) if one == "yes" else ("yes",))
            for other in ("yes", "no"):
                for word in ("and", "or"):
                    program = self.body(f"{one} {word} {other}", ("known", ()))
                    truth = (min if word == "and" else max)(one == "yes", other == "yes")
                    self.assertEqual(after_step(program, ("known", (0, 4)))[0][4], ("yes",) if truth else ("no",))

    def test_nested(self):
        self.body("not (yes and no)", ("known", ()), ("known", (1,)))
        self.body("(yes or no) and not no", ("known", ()), ("known", (1,)), ("known", (2,)))
        self.body("not not yes", ("known", ()), ("known", (1,)), ("twice", ()))
        self.body("empty(x) and (no or yes)", ("known", (2,)))
        self.body("if not no then yes else no and no", ("known", (1,)), ("known", (3,)))
        source = random.Random(733)
        for _ in range(200):
            self.check((("fun", "f", "truth", (), self.random_truth(source, 4)),))

    def random_truth(self, source, most):
        word = source.choice(("not", "and", "or", "yes", "no")) if most else source.choice(("yes", "no"))
        return (word,) + tuple(self.random_truth(source, most - 1) for _ in range({"not": 1, "and": 2, "or": 2}.get(word, 0)))

    def test_it_does_not_apply(self):
        for text in ("yes", "no", "not empty(x)", "yes and empty(x)", "empty(x) or yes", "no and same(x, y)", "not (yes or has(x, a))", "if empty(x) then yes else no", "either(yes, no)", "not either(yes, yes)",
                     "yes and f(x, y)", "no or (if empty(x) then yes else no)"):
            self.body(text)


class Others(Simplifier):
    def test_lift(self):
        self.body("up(top)", ("lift", ()), kind="place")
        self.body("up(up(top))", ("lift", (1,)), kind="place")
        self.body("left(up(top))", ("lift", (1,)), kind="place")
        self.body("same(up(top), right(up(top)))", ("lift", (1,)), ("lift", (2, 1)))
        for text in ("up(x)", "left(top)", "right(top)", "top", "up(left(top))"):
            self.body(text, kind="place")
        self.assertEqual(after_step(self.body("up(up(top))", ("lift", (1,)), kind="place"), ("lift", (0, 4, 1)))[0][4], ("up", ("top",)))

    def test_self(self):
        self.body("same(x, x)", ("self", ()))
        self.body("same(top, top)", ("self", ()))
        self.body("not same(y, y)", ("self", (1,)))
        for text in ("same(x, y)", "same(x, top)", "same(top, y)", "same(left(x), left(x))", "same(up(x), up(x))", "same(p(left(x)), p(left(x)))", "same(either(x, y), either(x, y))",
                     "same(if empty(x) then x else y, if empty(x) then x else y)"):
            self.body(text)
        self.body("same(p(x), p(x))", ("inline", (1,)), ("inline", (2,)))
        self.assertEqual(after_step(self.body("same(x, x)", ("self", ())), ("self", (0, 4)))[0][4], ("yes",))

    def test_twice(self):
        self.body("not not empty(x)", ("twice", ()))
        self.body("not not not empty(x)", ("twice", ()), ("twice", (1,)))
        self.body("not not not not f(x, y)", ("twice", ()), ("twice", (1,)), ("twice", (1, 1)))
        self.body("empty(x) or not not (empty(x) and empty(y))", ("twice", (2,)))
        for text in ("not empty(x)", "not (empty(x) and not empty(y))", "not (if empty(x) then not empty(y) else no)", "not either(not empty(x), no)"):
            self.body(text)
        self.assertEqual(after_step(self.body("not not empty(x)", ("twice", ())), ("twice", (0, 4)))[0][4], ("empty", ("name", "x")))

    def test_steps_at_all_paths(self):
        for text, path, kind in (("{}", (), "place"), ("left({})", (1,), "place"), ("has({}, a)", (1,), "truth"), ("same(y, {})", (2,), "truth"), ("s({}, x)", (2, 0), "truth"),
                                 ("s(x, {})", (2, 1), "truth"), ("if empty({}) then x else y", (1, 1), "place"), ("if empty(x) then {} else y", (2,), "place"),
                                 ("if empty(x) then y else {}", (3,), "place"), ("either({}, x)", (1,), "place"), ("either(x, {})", (2,), "place"),
                                 ("empty(x) and not has(right({}), b)", (2, 1, 1, 1), "truth"), ("yes or (empty({}) or no)", (2, 1, 1), "truth")):
            for part, steps in (("up(top)", [("lift", ())]), ("if no then x else top", [("branch", ())]), ("p(x)", [("inline", ())]), ("up(if same(x, x) then x else y)", [("self", (1, 1))]),
                                ("if not not empty(x) then x else y", [("twice", (1,))]), ("if not no then x else y", [("known", (1,))])):
                whole = text.format("(" + part + ")")
                self.body(whole, *[(word, path + rest) for word, rest in steps], kind=kind)

    def test_the_order_of_steps(self):
        program = read("fun z(x): truth = not not (if yes then e(x) else same(x, x)) fun e(x): truth = if no then empty(up(top)) else not no fun b(): place = up(up(top))")
        expected = (("branch", (0, 4, 1, 1)), ("branch", (1, 4)), ("inline", (0, 4, 1, 1, 2)), ("known", (1, 4, 3)), ("lift", (1, 4, 2, 1)), ("lift", (2, 4, 1)), ("self", (0, 4, 1, 1, 3)), ("twice", (0, 4)))
        self.check(program, expected)
        # Paths are sorted as tuples of numbers.
        many = read("".join(f"fun f{at}(): place = up(top) " for at in range(12)))
        self.assertEqual(steps_from(many), tuple(("lift", (at, 4)) for at in range(12)))

    def test_no_steps(self):
        self.check((), [])
        self.check(read("fun f(x): truth = f(x)"), [])
        self.assertEqual(simplified(()), ())


class Simplifying(Simplifier):
    def by_words(self, program):
        while steps_by_words(program):
            step, part = min(steps_by_words(program).items(), key=lambda pair: pair[0])
            program = changed_at(program, step[1], part)
        return program

    def test_examples(self):
        for text, rest in (("fun f(x): truth = not not not (yes and no)", "yes"), ("fun f(x): truth = if same(x, x) then empty(up(up(top))) else no", "empty(top)"),
                           ("fun f(x): truth = if not (no or not yes) then f(left(x)) else no", "f(left(x))"), ("fun f(x): truth = yes and empty(x)", "yes and empty(x)")):
            self.assertEqual(written(simplified(read(text))), "fun f(x): truth = " + rest)

    def test_the_first_step_is_taken(self):
        # With "known" first, there would be nothing left for "twice"; the call is gone before it could be inlined.
        program = read("fun f(x): truth = if yes then not not yes else g(x) fun g(x): truth = same(x, x)")
        self.assertEqual(written(simplified(program)), "fun f(x): truth = yes\nfun g(x): truth = yes")
        program = read("fun f(x): truth = g(x) and g(top) fun g(x): truth = h(x) fun h(x): truth = if no then same(x, x) else has(up(x), a)")
        self.assertEqual(simplified(program), self.by_words(program))

    def test_calls_that_can_be_inlined_one_after_the_other(self):
        program = read("fun a(x, y): truth = b(x) or b(y) fun b(x): truth = c(x) fun c(x): truth = d(x, top) fun d(x, y): truth = same(x, y)")
        self.check(program, [("inline", (2, 4))])
        self.assertEqual(written(simplified(program)), "fun a(x, y): truth = same(x, top) or same(y, top)\nfun b(x): truth = same(x, top)\nfun c(x): truth = same(x, top)\nfun d(x, y): truth = same(x, y)")

    def test_random_programs(self):
        for choice in (False, True):
            for program in random_programs(739, choice, 300):
                result = simplified(program)
                self.assertTrue(same_value(result, self.by_words(program)))
                self.assertEqual(steps_from(result), ())
                self.assertEqual(simplified(result), result)


def random_programs(seed, choice, many):
    """Programs within the limits of part 13, with many steps."""
    maker, source = ProgramMaker(seed, choice), random.Random(seed)
    found = []
    while len(found) < many:
        program = tuple(function[:4] + (with_steps(source, function[4]),) for function in maker.program(1 + source.randrange(8), 2, 3))
        terms, calls = sizes(program)
        if terms <= 60 and calls <= 4 and max(depth(function[4]) for function in program) <= 5:
            found.append(program)
    return found


def with_steps(source, term):
    """A term with the same value, to which more steps apply."""
    word = term[0]
    if word in ("yes", "no") and source.random() < 0.5:
        other = "no" if word == "yes" else "yes"
        return source.choice((("not", (other,)), ("and", (word,), ("yes",)), ("or", (word,), ("no",))))
    if word == "top" and source.random() < 0.5:
        return ("up", ("top",))
    if word == "empty" and source.random() < 0.3:
        return ("not", ("not", term))
    if word == "name" and source.random() < 0.1:
        return ("if", ("same", term, term), term, ("top",))
    if word == "call":
        return term if source.random() < 0.6 else ("call", term[1], tuple(("top",) for _ in term[2]))
    return tuple(with_steps(source, item) if isinstance(item, tuple) else item for item in term)


class WhatStepsKeep(Simplifier):
    def check_calls(self, program, after, tree, calls, source):
        for call in calls:
            self.assertTrue(same_value(lot(after, tree, call), lot(program, tree, call)), (program, after, tree, call))
            picks = "".join(source.choice("lr") for _ in range(30))
            one, other = run(program, tree, call, picks, 800), run(after, tree, call, picks, 800)
            if one[0] == "outcome":
                self.assertTrue(same_value(other[:2], one[:2]), (program, after, tree, call, picks))
                self.assertLessEqual(other[2], one[2])
            elif one[0] == "open":
                self.assertEqual(other[0], "open")
                self.assertLessEqual(other[1], one[1])
            elif not lot(program, tree, call):
                self.assertNotEqual(other[0], "outcome")
            self.counts[one[0]] = self.counts.get(one[0], 0) + 1

    def test_random_programs(self):
        self.counts, words = {}, {}
        for choice in (False, True):
            source = random.Random(743)
            for size, program in enumerate(random_programs(751, choice, 150)):
                tree = small_trees()[size % 7]
                calls = all_calls(program, tree)
                calls = source.sample(calls, min(6, len(calls)))
                steps = self.check(program)
                for step in steps:
                    words[step[0]] = words.get(step[0], 0) + 1
                    self.check_calls(program, after_step(program, step), tree, calls, source)
                self.check_calls(program, simplified(program), tree, calls, source)
        self.assertEqual(sorted(words), ["branch", "inline", "known", "lift", "self", "twice"])
        self.assertGreater(min(words.values()), 15)
        self.assertEqual(sorted(self.counts), ["cut", "open", "outcome"])

    def test_chosen_steps(self):
        self.counts = {}
        source = random.Random(757)
        texts = ("fun f(x): place = c(x, top) fun c(x, y): place = either(x, either(left(y), up(x)))", "fun f(x): truth = if no then f(x) else not not g(x) fun g(x): truth = has(x, b) or same(x, up(top))",
                 "fun f(x): truth = (yes and no) or f(up(top)) and same(x, x)", "fun f(x): place = if either(yes, no) then g(x, x) else left(g(top, x)) fun g(x, y): place = if empty(y) then up(x) else either(y, x)")
        for text in texts:
            program = read(text)
            for tree in small_trees()[:5]:
                for step in self.check(program):
                    self.check_calls(program, after_step(program, step), tree, all_calls(program, tree), source)


class AnyValues(unittest.TestCase):
    PROGRAM = read("fun f(x, y): truth = same(x, y) or has(up(top), a) fun g(x): truth = if not not yes then f(x, x) else no")

    def test_changed_steps(self):
        steps = steps_from(self.PROGRAM)
        counts = {True: 0, False: 0}
        for step in steps:
            for thing in changed(step, ODD_VALUES + ["inline", "known", "lift", "twice", "branch", "self", 4, (1, 4, 1), (1, 4), (0, 4, 2, 1)]):
                right = any(same_value(thing, other) for other in steps)
                self.assertIs(is_step(self.PROGRAM, thing), right, thing)
                counts[right] += 1
                if not right:
                    check_raises(self, "BadStep", thing, after_step, self.PROGRAM, thing)
        self.assertGreater(counts[True], 10)
        self.assertGreater(counts[False], 1000)

    def test_bools_are_no_positions(self):
        self.assertIs(is_step(self.PROGRAM, ("known", (1, 4, 1))), True)
        for path in ((True, 4, 1), (1, 4, True), [1, 4, 1], "141", (1, 4), (1, 4, 1, 1, 1), (-1, 4, 1), (1, -1, 1), (1, 4, -3), (), None):
            self.assertIs(is_step(self.PROGRAM, ("known", path)), False)
            check_raises(self, "BadStep", ("known", path), after_step, self.PROGRAM, ("known", path))
        self.assertIs(is_step(self.PROGRAM, ["known", (1, 4, 1)]), False)
        self.assertIs(is_step(self.PROGRAM, ("known", (1, 4, 1), ())), False)

    def test_steps_of_another_word(self):
        for word in ("branch", "inline", "known", "lift", "self", "twice", "Known", "", None, ("known",)):
            for path in ((0, 4), (0, 4, 1), (0, 4, 2), (0, 4, 2, 1), (0, 4, 2, 1, 1), (1, 4), (1, 4, 1), (1, 4, 1, 1), (1, 4, 1, 1, 1), (1, 4, 2), (1, 4, 2, 2, 0), (1, 4, 3), (2, 4), (0, 3), (0,), (0, 4, 2, 2)):
                self.assertIs(is_step(self.PROGRAM, (word, path)), (word, path) in steps_by_words(self.PROGRAM))

    def test_any_value(self):
        for thing in ODD_VALUES:
            self.assertIs(is_step(self.PROGRAM, thing), False)
            self.assertIs(is_step((), thing), False)
            check_raises(self, "BadStep", thing, after_step, self.PROGRAM, thing)
            for step in (("known", thing), (thing, (1, 4, 1)), ("known", (thing,)), ("known", (1, 4, thing))):
                right = any(same_value(step, other) for other in steps_from(self.PROGRAM))
                self.assertIs(is_step(self.PROGRAM, step), right)

    def test_bad_program(self):
        for thing in ODD_VALUES + [read("fun f(x): truth = g(x)"), read("fun f(x): truth = not not x")]:
            if not is_program(thing):
                check_raises(self, "BadProgram", thing, steps_from, thing)
                check_raises(self, "BadProgram", thing, simplified, thing)
                check_raises(self, "BadProgram", thing, is_step, thing, ("known", (0, 4)))
                check_raises(self, "BadProgram", thing, after_step, thing, ("known", (0, 4)))

    def test_order(self):
        good = {"program": self.PROGRAM, "step": ("twice", (1, 4, 1))}
        check_order(self, after_step, good, {"program": (["f"], "BadProgram", ["f"]), "step": (("twice", (1, 4)), "BadStep", ("twice", (1, 4)))})
