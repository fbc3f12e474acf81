"""Polynomials and the bounds of programs: points [6.1] and [6.2], and what the guarantee [0.3] says of them."""

import random
import unittest

from eyesonly.bounds import bound, is_poly, value_at, width
from eyesonly.kinds import is_program
from eyesonly.tables import reached
from eyesonly.texts import read
from eyesonly.trees import places
from tests.helpers import ODD_VALUES, chain, changed, check_order, check_raises
from tests.lots import Lots, Papers, Stuck
from tests.programs import ProgramMaker, all_calls, small_trees


def is_poly_by_words(thing):
    """[6.1], said once more."""
    if type(thing) is not tuple:
        return False
    for item in thing:
        if type(item) is not tuple or len(item) != 2 or type(item[0]) is not int or type(item[1]) is not int:
            return False
        if item[0] < 0 or item[1] < 1:
            return False
    return list(thing) == sorted(thing) and len({item[0] for item in thing}) == len(thing)


def terms_in(term):
    """Each term in a term."""
    found = [term]
    parts = term[2] if term[0] == "call" else [part for part in term[1:] if isinstance(part, tuple)]
    for part in parts:
        found += terms_in(part)
    return found


class Polynomials(unittest.TestCase):
    def test_polynomials(self):
        for thing in ((), ((0, 1),), ((1, 1),), ((0, 3), (1, 1)), ((12, 10 ** 12),), ((0, 1), (5, 2), (6, 1)), ((10 ** 39, 10 ** 39),),
                      tuple((exponent, 1) for exponent in range(20))):
            self.assertIs(is_poly(thing), True, thing)
        for thing in (None, [], [(0, 1)], ([0, 1],), ((0, 0),), ((0, -1),), ((-1, 1),), ((True, 1),), ((1, True),), ((False, 1),), ((0, False),),
                      ((0, 1, 1),), ((0,),), (0, 1), ((1, 1), (0, 1)), ((1, 1), (1, 2)), ((1, 2), (1, 2)), ((0, 1), (2, 1), (1, 1)), ((0, "1"),),
                      (("0", 1),), ((0, None),), ((0, 1), None), ((0, 1), ()), {0: 1}, "", 0, ((0, (1,)),)):
            self.assertIs(is_poly(thing), False, thing)

    def test_any_value(self):
        for thing in ODD_VALUES:
            self.assertIs(is_poly(thing), is_poly_by_words(thing), thing)
        for thing in changed(((0, 1), (2, 7), (3, 7)), [None, True, False, 0, 1, 2, 3, -1, "a", (), [1], (1, 1), (3, 1)]):
            self.assertIs(is_poly(thing), is_poly_by_words(thing), thing)

    def test_values(self):
        for poly, number, value in (
            ((), 0, 0), ((), 9, 0), (((0, 7),), 0, 7), (((0, 7),), 10 ** 6, 7), (((1, 1),), 0, 0), (((1, 3),), 5, 15), (((2, 1),), 10 ** 6, 10 ** 12),
            (((0, 1), (1, 1), (2, 1)), 0, 1), (((0, 1), (1, 1), (2, 1)), 1, 3), (((0, 1), (1, 1), (2, 1)), 10, 111),
            (((12, 10 ** 12),), 10 ** 6, 10 ** 84), (((5, 2), (6, 3)), 2, 256), (((3, 4), (7, 1)), 3, 2295),
        ):
            self.assertEqual(value_at(poly, number), value, (poly, number))
            self.assertIs(type(value_at(poly, number)), int)

    def test_random_values(self):
        source = random.Random(79)
        for many in range(21):
            exponents = sorted(source.sample(range(24), many))
            poly = tuple((exponent, source.randrange(1, 10 ** 12)) for exponent in exponents)
            for number in (0, 1, 2, 3, 10, 999983, 10 ** 6):
                self.assertEqual(value_at(poly, number), sum(factor * number ** exponent for exponent, factor in poly))

    def test_large_exponents(self):
        self.assertEqual(value_at(((10 ** 39, 5),), 0), 0)
        self.assertEqual(value_at(((10 ** 39, 5),), 1), 5)

    def test_errors(self):
        for thing in ODD_VALUES:
            if not is_poly_by_words(thing):
                check_raises(self, "BadPoly", thing, value_at, thing, 3)
            if type(thing) is not int or thing < 0:
                check_raises(self, "BadNumber", thing, value_at, ((0, 1),), thing)
        check_order(self, value_at, {"poly": (), "number": 3}, {"poly": ([], "BadPoly", []), "number": (True, "BadNumber", True)})
        check_raises(self, "BadNumber", -1, value_at, (), -1)
        check_raises(self, "BadPoly", ((0, 0),), value_at, ((0, 0),), -1)


class Bounds(unittest.TestCase):
    def check(self, text, expected_width, expected_bound):
        program = read(text)
        self.assertEqual(width(program), expected_width, text)
        self.assertEqual(bound(program), expected_bound, text)
        self.assertTrue(is_poly(width(program)) and is_poly(bound(program)))

    def test_the_script_without_functions(self):
        self.check("", (), ())

    def test_functions(self):
        self.check("fun f(): truth = yes", ((0, 1),), ((0, 1),))
        self.check("fun f(x): truth = empty(x)", ((1, 1),), ((1, 2),))
        self.check("fun f(a, b, c, d, e): place = c", ((5, 1),), ((5, 1),))
        # The same number of names, and others.
        self.check("fun f(x): truth = empty(x) fun g(y): place = left(left(y))", ((1, 2),), ((1, 5),))
        self.check("fun f(x, y): truth = same(x, y) fun g(): place = top fun h(): truth = no fun k(y, x): place = x",
                   ((0, 2), (2, 2)), ((0, 2), (2, 4)))

    def test_calls(self):
        self.check("fun f(x): truth = f(x)", ((1, 1),), ((1, 4),))
        self.check("fun f(): truth = f()", ((0, 1),), ((0, 2),))
        self.check("fun f(x): truth = f(x) and f(left(x))", ((1, 1),), ((1, 18),))
        self.check("fun f(x): place = f(f(f(x)))", ((1, 1),), ((1, 16),))
        self.check("fun f(x, y): truth = f(y, x) fun g(x): truth = f(x, x) or g(x)", ((1, 1), (2, 1)), ((1, 18), (2, 6)))

    def test_each_kind_of_term(self):
        for body, many in (("yes", 1), ("no", 1), ("empty(x)", 2), ("empty(top)", 2), ("empty(left(x))", 3), ("empty(right(x))", 3),
                           ("empty(up(x))", 3), ("has(x, a)", 2), ("same(x, top)", 3), ("not yes", 2), ("yes and no", 3), ("yes or no", 3),
                           ("if yes then no else no", 4), ("f(x)", 4)):
            self.check("fun f(x): truth = " + body, ((1, 1),), ((1, many),))

    def test_by_words(self):
        maker = ProgramMaker(83, False)
        source = random.Random(83)
        for size in range(60):
            program = maker.program(1 + size % 6, size % 6, size % 6)
            widths, bounds = {}, {}
            for function in program:
                many, terms = len(function[3]), terms_in(function[4])
                calls = [term for term in terms if term[0] == "call"]
                widths[many] = widths.get(many, 0) + 1
                bounds[many] = bounds.get(many, 0) + (1 + len(calls)) * len(terms)
            self.assertEqual(width(program), tuple(sorted(widths.items())))
            self.assertEqual(bound(program), tuple(sorted(bounds.items())))
            mixed = tuple(source.sample(program, len(program)))
            self.assertEqual((width(mixed), bound(mixed)), (width(program), bound(program)))

    def test_names_do_not_count(self):
        one = read("fun f(x, y): truth = g(x) and has(y, a) fun g(z): truth = empty(z)")
        other = read("fun two(p, q): truth = one(p) and has(q, abc) fun one(p): truth = empty(p)")
        self.assertEqual((width(one), bound(one)), (width(other), bound(other)))

    def test_choice(self):
        choosing = read("fun f(x): truth = empty(x) fun g(x, y): place = either(x, y) fun h(): truth = either(no, yes)")
        self.assertEqual(width(choosing), ((0, 1), (1, 1), (2, 1)))
        check_raises(self, "Choosing", "g", bound, choosing)
        check_raises(self, "Choosing", "h", bound, choosing[::-1])

    def test_errors(self):
        for thing in ODD_VALUES + [read("fun f(x): place = either(x, y)")]:
            if not is_program(thing):
                check_raises(self, "BadProgram", thing, width, thing)
                check_raises(self, "BadProgram", thing, bound, thing)


class WhatTheyBound(unittest.TestCase):
    def test_reached_calls_are_within_the_width(self):
        equal = 0
        for choice in (False, True):
            maker = ProgramMaker(89, choice)
            for size in range(80):
                program = maker.program(1 + size % 4, 2, 1 + size % 4)
                tree = small_trees()[size % 4]
                most = value_at(width(program), len(places(tree)))
                self.assertEqual(most, len(all_calls(program, tree)))
                for call in all_calls(program, tree)[::4]:
                    self.assertLessEqual(len(reached(program, tree, call)), most)
                    equal += len(reached(program, tree, call)) == most
        self.assertGreater(equal, 20)
        program = read("fun f(x, y): place = either(f(left(x), y), either(f(right(x), y), either(f(x, left(y)), f(x, right(y)))))")
        tree = small_trees()[3]
        self.assertEqual(len(reached(program, tree, ("f", ("", "")))), value_at(width(program), len(places(tree))))

    def test_evaluated_terms_are_within_the_bound(self):
        maker = ProgramMaker(97, False)
        tight = 0
        for size in range(120):
            program = maker.program(1 + size % 4, 2, 1 + size % 4)
            tree = small_trees()[size % 6]
            most = value_at(bound(program), len(places(tree)))
            for call in all_calls(program, tree)[::4]:
                many = evaluated(program, tree, call)
                self.assertLessEqual(many, most)
                tight += 4 * many > most
        self.assertGreater(tight, 20)

    def test_a_chain(self):
        program = read("fun f(x, y): truth = if not empty(y) then f(x, right(y)) else if not empty(x) then f(right(x), top) else yes")
        tree = chain("r" * 12)
        self.assertLessEqual(evaluated(program, tree, ("f", ("", ""))), value_at(bound(program), 25))


class Counted(Papers):
    """Counts the terms that are evaluated."""

    def __init__(self, program, tree):
        super().__init__(program, tree)
        self.many = 0

    def evaluate(self, term, names, known):
        self.many += 1
        return super().evaluate(term, names, known)


def evaluated(program, tree, call):
    """How many terms are evaluated if each reached call is evaluated, and again when the call that it waited for is known."""
    counted = Counted(program, tree)
    reached_calls = Lots(program, tree).reached(call)
    known, waiting, queue = {}, {}, list(reached_calls)
    while queue:
        other = queue.pop(0)
        _, _, _, names, body = counted.functions[other[0]]
        try:
            known[other] = counted.evaluate(body, dict(zip(names, other[1])), known)
            queue += waiting.pop(other, [])
        except Stuck as stuck:
            waiting.setdefault(stuck.args[0], []).append(other)
    return counted.many
