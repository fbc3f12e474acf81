"""Code: points [7.1], [7.2] and [7.3]."""

import random
import time
import unittest

from eyesonly.code import code_holds, is_accepted, is_code, judge_code, read_by, set_by
from tests.codes import CodeMaker, changed_code, is_code_by_words, is_row_by_words, judged_by_words, random_row, reads, sets
from tests.helpers import FEW_ODD_VALUES, ODD_VALUES, changed, check_raises, same_value

ROWS = (
    ("top", 3), ("move", 4, 2), ("left", 5, 1), ("right", 0, 7), ("up", 2, 2), ("yes", 6), ("no", 8), ("has", 1, 9, "if"),
    ("empty", 3, 0), ("same", 4, 2, 1), ("not", 7, 5), ("skip", 12), ("unless", 3, 4), ("call", 2, 1, (5, 0, 5)), ("give", 6),
)
READ_AND_SET = (
    ((), 3), ((2,), 4), ((1,), 5), ((7,), 0), ((2,), 2), ((), 6), ((), 8), ((9,), 1), ((0,), 3), ((2, 1), 4), ((5,), 7), ((), None),
    ((3,), None), ((5, 0, 5), 2), ((6,), None),
)
ODD_ROWS = (
    (), ("top",), ("top", 0, 0), ("top", -1), ("top", True), ("top", "0"), ("top", None), ["top", 0], ("Top", 0), ("go", 0), (0, 0), (("top",), 0),
    ("move", 0), ("move", 0, 0, 0), ("move", 0, False), ("has", 0, 0), ("has", 0, 0, ""), ("has", 0, 0, "A"), ("has", 0, 0, "abcdefghi"),
    ("has", 0, 0, 0), ("has", 0, "a", 0), ("has", 0, 0, "a", 0), ("same", 0, 0), ("same", 0, 0, -1), ("skip",), ("skip", -1), ("skip", None),
    ("unless", 0), ("unless", True, 1), ("unless", 0, True), ("call", 0, 0), ("call", 0, 0, [0]), ("call", 0, 0, (True,)), ("call", 0, 0, (-1,)),
    ("call", 0, 0, 0), ("call", 0, True, ()), ("call", 0, 0, (), 0), ("call", 0, 0, ((0,),)), ("give",), ("give", 0, 0), ("give", -1), None, 0,
    "top", {"top": 0}, [["top"]], (["top"], 0), ({}, 0),
)


class Shapes(unittest.TestCase):
    def test_rows(self):
        for row, (read, register) in zip(ROWS, READ_AND_SET):
            self.assertTrue(same_value(read_by(row), read), row)
            self.assertTrue(same_value(set_by(row), register), row)
            self.assertEqual((reads(row), sets(row)), (read, register))
            self.assertTrue(is_code((("place", 0, 0, (row,)),)))

    def test_no_rows(self):
        for thing in ODD_ROWS + tuple(ODD_VALUES):
            check_raises(self, "BadRow", thing, read_by, thing)
            check_raises(self, "BadRow", thing, set_by, thing)
            self.assertIs(is_code((("place", 0, 0, (thing,)),)), False)

    def test_changed_rows(self):
        for row in ROWS:
            for thing in changed(row, FEW_ODD_VALUES + [7, (1, 2), "abc"]):
                if is_row_by_words(thing):
                    self.assertEqual((read_by(thing), set_by(thing)), (reads(thing), sets(thing)))
                    self.assertTrue(is_code((("truth", 0, 0, (thing,)),)))
                else:
                    check_raises(self, "BadRow", thing, read_by, thing)
                    check_raises(self, "BadRow", thing, set_by, thing)
                    self.assertFalse(is_code((("truth", 0, 0, (thing,)),)))

    def test_large_numbers(self):
        self.assertEqual(read_by(("same", 0, 10 ** 39, 5)), (10 ** 39, 5))
        self.assertEqual(set_by(("call", 10 ** 39, 0, ())), 10 ** 39)

    def test_code(self):
        good = (("place", 1, 3, (("top", 2), ("give", 2))), ("truth", 0, 0, ()))
        for thing in changed(good, FEW_ODD_VALUES + [2, 10 ** 39, "place", "truth", ("top", 1)]):
            self.assertIs(is_code(thing), is_code_by_words(thing), thing)
        for thing in (good, (), (("place", 0, 0, ()),), (("truth", 5, 5, ROWS),), (("truth", 10 ** 39, 10 ** 39, ()),)):
            self.assertIs(is_code(thing), True)
        for thing in ((("place", 2, 1, ()),), (("place", True, 1, ()),), (("place", 0, True, ()),), (("place", -1, 0, ()),), (("kind", 0, 0, ()),),
                      (("place", 0, 0, []),), (["place", 0, 0, ()],), [("place", 0, 0, ())], (("place", 0, 0),), (("place", 0, 0, (), ()),),
                      (("place", 0, None, ()),), ("place", 0, 0, ()), ((None, 0, 0, ()),), ((["place"], 0, 0, ()),)):
            self.assertIs(is_code(thing), False, thing)

    def test_any_value(self):
        for thing in ODD_VALUES:
            self.assertIs(is_code(thing), thing == ())
            self.assertIs(is_accepted(thing), thing == ())
            if thing != ():
                check_raises(self, "BadShape", thing, judge_code, thing)
                check_raises(self, "BadShape", thing, code_holds, thing, None)
                check_raises(self, "BadShape", (thing,), judge_code, (thing,))
                check_raises(self, "BadShape", (("place", 0, 0, (thing,)),), code_holds, (("place", 0, 0, (thing,)),), None)


def one(kind, many, registers, *rows):
    """Code with one function."""
    return ((kind, many, registers, rows),)


class Judged(unittest.TestCase):
    def check(self, code, expected):
        if expected[0] == "refused" and len(expected) == 3:
            expected = ("refused", 0) + expected[1:]
        self.assertTrue(same_value(judge_code(code), expected), (code, judge_code(code), expected))
        self.assertEqual(judged_by_words(code), expected)
        self.assertIs(is_accepted(code), expected[0] == "accepted")
        self.assertIs(code_holds(code, expected), True)

    def refused(self, code, number, reason):
        self.check(code, ("refused", number, reason))

    def accepted(self, code, *kinds):
        letters = {"p": "place", "t": "truth", "-": None}
        self.check(code, ("accepted", (tuple(None if row is None else tuple(letters[sign] for sign in row) for row in kinds),)))

    def test_the_code_without_functions(self):
        self.check((), ("accepted", ()))

    def test_a_function_without_rows(self):
        self.refused(one("place", 0, 0), 0, "number")
        self.check((("place", 0, 1, (("top", 0), ("give", 0))), ("truth", 3, 3, ())), ("refused", 1, 0, "number"))

    def test_kinds_of_each_row(self):
        self.accepted(one("place", 0, 1, ("top", 0), ("give", 0)), "-", "p")
        for word in ("left", "right", "up"):
            self.accepted(one("place", 1, 2, (word, 1, 0), ("give", 1)), "p-", "pp")
        for word in ("yes", "no"):
            self.accepted(one("truth", 0, 1, (word, 0), ("give", 0)), "-", "t")
        self.accepted(one("truth", 1, 2, ("has", 1, 0, "a"), ("give", 1)), "p-", "pt")
        self.accepted(one("truth", 1, 1, ("empty", 0, 0), ("give", 0)), "p", "t")
        self.accepted(one("truth", 2, 3, ("same", 2, 0, 1), ("not", 2, 2), ("give", 2)), "pp-", "ppt", "ppt")
        self.accepted(one("place", 1, 2, ("move", 1, 0), ("give", 1)), "p-", "pp")
        self.accepted(one("truth", 1, 3, ("yes", 1), ("move", 2, 1), ("move", 0, 2), ("give", 0)), "p--", "pt-", "ptt", "ttt")
        self.accepted(one("truth", 0, 1, ("call", 0, 0, ()), ("give", 0)), "-", "t")
        self.accepted(one("place", 2, 3, ("call", 2, 0, (1, 1)), ("give", 2)), "pp-", "ppp")
        self.accepted(one("truth", 0, 1, ("yes", 0), ("unless", 0, 2), ("give", 0)), "-", "t", "t")
        self.accepted(one("truth", 0, 1, ("yes", 0), ("skip", 2), ("give", 0)), "-", "t", "t")

    def test_calls_of_other_functions(self):
        code = (("truth", 1, 2, (("call", 1, 1, (0,)), ("empty", 0, 1), ("give", 0))), ("place", 1, 1, (("give", 0),)))
        self.check(code, ("accepted", ((("place", None), ("place", "place"), ("truth", "place")), (("place",),))))

    def test_rows_that_are_not_reached(self):
        self.accepted(one("place", 0, 1, ("top", 0), ("skip", 3), ("not", 0, 0), ("give", 0)), "-", "p", None, "p")
        self.accepted(one("place", 1, 1, ("give", 0), ("give", 0)), "p", None)
        self.accepted(one("place", 1, 2, ("give", 0), ("yes", 1)), "p-", None)
        self.accepted(one("place", 1, 2, ("give", 0), ("give", 1), ("not", 1, 0), ("call", 1, 0, ()), ("unless", 0, 5), ("left", 1, 1)),
                      "p-", *[None] * 5)
        # What is only reached from a row that is not reached is not reached.
        self.accepted(one("place", 1, 1, ("skip", 3), ("skip", 2), ("yes", 0), ("give", 0)), "p", None, None, "p")
        for row in (("give", 2), ("skip", 1), ("skip", 0), ("skip", 3), ("call", 0, 1, (0,)), ("unless", 0, 1), ("move", 2, 0), ("call", 0, 0, (2,))):
            self.refused(one("place", 1, 2, ("give", 0), row), 1, "number")
            self.refused(one("place", 1, 2, ("give", 0), row, ("give", 0)), 1, "number")

    def test_ways_that_meet(self):
        test = (("empty", 1, 0), ("unless", 1, 4))
        # Set on one way alone.
        self.accepted(one("place", 1, 3, *test, ("top", 2), ("skip", 4), ("give", 0)), "p--", "pt-", "pt-", "ptp", "pt-")
        self.refused(one("place", 1, 3, *test, ("top", 2), ("skip", 4), ("give", 2)), 4, "unset")
        # Set on both ways.
        both = (("empty", 1, 0), ("unless", 1, 4), ("top", 2), ("skip", 5))
        self.accepted(one("place", 1, 3, *both, ("left", 2, 0), ("give", 2)), "p--", "pt-", "pt-", "ptp", "pt-", "ptp")
        # Set with unlike kinds.
        self.accepted(one("place", 1, 3, *both, ("yes", 2), ("give", 0)), "p--", "pt-", "pt-", "ptp", "pt-", "pt-")
        self.refused(one("place", 1, 3, *both, ("yes", 2), ("give", 2)), 5, "unset")
        self.refused(one("place", 1, 3, *both, ("yes", 2), ("move", 0, 2), ("give", 0)), 5, "unset")
        # A name's register that is set otherwise on one way.
        self.refused(one("place", 1, 2, ("empty", 1, 0), ("unless", 1, 3), ("yes", 0), ("give", 0)), 3, "unset")
        self.accepted(one("truth", 1, 2, ("empty", 1, 0), ("unless", 1, 3), ("yes", 0), ("give", 1)), "p-", "pt", "pt", "-t")
        # None may come again from one of three ways.
        three = (("empty", 1, 0), ("unless", 1, 5), ("top", 2), ("unless", 1, 6), ("skip", 6), ("yes", 2), ("give", 0))
        self.accepted(one("place", 1, 3, *three), "p--", "pt-", "pt-", "ptp", "ptp", "pt-", "pt-")
        # It gets a kind again.
        self.accepted(one("truth", 1, 3, *both, ("yes", 2), ("empty", 2, 0), ("give", 2)), "p--", "pt-", "pt-", "ptp", "pt-", "pt-", "ptt")

    def test_number(self):
        for row in (("top", 2), ("move", 2, 0), ("move", 0, 2), ("left", 2, 0), ("left", 1, 2), ("right", 2, 0), ("right", 1, 2), ("up", 2, 0),
                    ("up", 1, 10 ** 39), ("yes", 2), ("no", 2), ("has", 2, 0, "a"), ("has", 1, 2, "a"), ("empty", 2, 0), ("empty", 1, 2),
                    ("same", 2, 0, 0), ("same", 1, 2, 0), ("same", 1, 0, 2), ("not", 2, 0), ("not", 1, 2), ("unless", 2, 1), ("unless", 2, 2),
                    ("call", 2, 0, (0,)), ("call", 1, 1, (0,)), ("call", 1, 0, (2,)), ("call", 1, 10 ** 39, ()), ("give", 2)):
            self.refused(one("place", 1, 2, row, ("give", 0)), 0, "number")
        for k in (0, 3, 4, 10 ** 39):
            self.refused(one("place", 1, 1, ("skip", k), ("give", 0), ("give", 0)), 0, "number")
            self.refused(one("place", 1, 1, ("unless", 0, k), ("give", 0), ("give", 0)), 0, "number")
        self.refused(one("place", 1, 1, ("skip", 2), ("skip", 1), ("give", 0)), 1, "number")
        self.refused(one("place", 1, 1, ("skip", 2), ("skip", 0), ("give", 0)), 1, "number")
        self.refused(one("place", 1, 1, ("skip", 1), ("skip", 2)), 1, "number")
        self.refused(one("truth", 1, 1, ("empty", 0, 0), ("unless", 0, 1), ("give", 0)), 1, "number")
        self.refused(one("truth", 1, 1, ("empty", 0, 0), ("unless", 0, 0), ("give", 0)), 1, "number")
        self.refused(one("truth", 1, 1, ("empty", 0, 0), ("unless", 0, 2)), 1, "number")
        self.refused(one("place", 0, 0, ("top", 0)), 0, "number")

    def test_end(self):
        for row in (("top", 1), ("move", 1, 0), ("left", 1, 0), ("right", 1, 0), ("up", 1, 0), ("yes", 1), ("no", 1), ("has", 1, 0, "a"),
                    ("empty", 1, 0), ("same", 1, 0, 0), ("call", 1, 0, (0,))):
            self.refused(one("place", 1, 2, row), 0, "end")
        self.refused(one("place", 1, 2, ("yes", 1), ("not", 1, 1)), 1, "end")
        self.refused(one("place", 1, 2, ("skip", 2), ("give", 0), ("yes", 1)), 2, "end")

    def test_unset(self):
        for row in (("move", 1, 2), ("left", 1, 2), ("right", 1, 2), ("up", 1, 2), ("has", 1, 2, "a"), ("empty", 1, 2), ("same", 1, 2, 0),
                    ("same", 1, 0, 2), ("not", 1, 2), ("unless", 2, 1), ("call", 1, 0, (2,)), ("give", 2), ("left", 2, 2)):
            self.refused(one("place", 1, 3, row, ("give", 0)), 0, "unset")
        self.refused(one("place", 1, 3, ("call", 1, 0, (2,)), ("give", 1)), 0, "unset")

    def test_kind(self):
        for row in (("left", 1, 2), ("right", 1, 2), ("up", 1, 2), ("has", 1, 2, "a"), ("empty", 1, 2), ("same", 1, 2, 0), ("same", 1, 0, 2),
                    ("not", 1, 0), ("unless", 0, 2), ("call", 1, 0, (2,)), ("give", 2)):
            self.refused(one("place", 1, 3, ("yes", 2), row, ("give", 0)), 1, "kind")
        self.refused(one("truth", 1, 1, ("give", 0)), 0, "kind")
        self.refused(one("truth", 2, 2, ("empty", 0, 0), ("call", 0, 0, (1, 0)), ("give", 0)), 1, "kind")

    def test_many(self):
        for args in ((), (0, 0), (0, 0, 0)):
            self.refused(one("place", 1, 2, ("call", 1, 0, args), ("give", 0)), 0, "many")
        code = (("place", 0, 1, (("call", 0, 1, ()), ("give", 0))), ("place", 1, 1, (("give", 0),)))
        self.refused(code, 0, "many")

    def test_where_several_reasons_apply(self):
        # "number" before "end", "unset", "kind" and "many".
        self.refused(one("place", 1, 3, ("left", 9, 2)), 0, "number")
        self.refused(one("place", 1, 3, ("yes", 2), ("same", 9, 1, 2), ("give", 0)), 1, "number")
        self.refused(one("place", 1, 3, ("yes", 2), ("call", 1, 0, (9, 2)), ("give", 0)), 1, "number")
        self.refused(one("place", 1, 3, ("unless", 2, 0)), 0, "number")
        self.refused(one("place", 1, 3, ("unless", 0, 0), ("give", 0)), 0, "number")
        # "end" before "unset", "kind" and "many".
        self.refused(one("place", 1, 3, ("left", 1, 2)), 0, "end")
        self.refused(one("place", 1, 3, ("not", 1, 0)), 0, "end")
        self.refused(one("place", 1, 3, ("call", 1, 0, ())), 0, "end")
        self.refused(one("place", 1, 3, ("call", 1, 0, (1, 1))), 0, "end")
        # "unset" before "kind" and "many".
        self.refused(one("place", 1, 3, ("yes", 2), ("same", 1, 2, 1), ("give", 0)), 1, "unset")
        self.refused(one("place", 1, 3, ("yes", 2), ("call", 1, 0, (2, 1)), ("give", 0)), 1, "unset")
        # "kind" before "many".
        self.refused(one("place", 1, 3, ("yes", 2), ("call", 1, 0, (2, 0)), ("give", 0)), 1, "kind")
        self.refused(one("place", 1, 3, ("yes", 2), ("call", 1, 0, (0, 0)), ("give", 0)), 1, "many")

    def test_the_first_faulty_row(self):
        good, bad = ("place", 1, 1, (("give", 0),)), ("place", 1, 1, (("give", 0), ("give", 1)))
        worse = ("truth", 1, 1, (("give", 0),))
        self.check((good, bad, worse), ("refused", 1, 1, "number"))
        self.check((good, worse, bad), ("refused", 1, 0, "kind"))
        self.check((bad, worse), ("refused", 0, 1, "number"))
        self.check((good, good, ("place", 0, 0, ())), ("refused", 2, 0, "number"))
        self.refused(one("place", 1, 3, ("give", 0), ("give", 9), ("skip", 0)), 1, "number")
        self.refused(one("place", 1, 3, ("give", 1), ("give", 9)), 0, "unset")

    def test_random_code(self):
        maker, source = CodeMaker(101), random.Random(103)
        reasons = {}
        for size in range(1500):
            code = maker.code(1 + size % 4, size % 4, 1 + size % 14)
            self.assertEqual(judged_by_words(code)[0], "accepted")
            self.check(code, judged_by_words(code))
            other = changed_code(source, code)
            expected = judged_by_words(other)
            self.check(other, expected)
            reasons[expected[-1] if expected[0] == "refused" else ""] = True
        self.assertEqual(sorted(reasons), ["", "end", "kind", "many", "number", "unset"])

    def test_random_rows(self):
        source = random.Random(107)
        for size in range(3000):
            rows = tuple(random_row(source) for _ in range(1 + size % 6))
            code = one(source.choice(("place", "truth")), size % 3, 2 + size % 3, *rows)
            self.check(code, judged_by_words(code))


class Certificates(unittest.TestCase):
    def test_only_the_certificate_holds(self):
        maker, source = CodeMaker(109), random.Random(113)
        for size in range(12):
            code = maker.code(1 + size % 2, size % 2, 3)
            for shape in (code, changed_code(source, code)):
                expected = judged_by_words(shape)
                for thing in changed(expected, [None, True, False, 0, 1, "place", "truth", (), ("place",), ("accepted", ()), "kind"]):
                    self.assertIs(code_holds(shape, thing), same_value(thing, expected), (shape, thing))

    def test_refused(self):
        code = (("place", 1, 1, (("give", 0),)), ("truth", 1, 1, (("empty", 0, 0), ("skip", 1), ("give", 0))))
        self.assertEqual(judge_code(code), ("refused", 1, 1, "number"))
        for thing in (("refused", True, 1, "number"), ("refused", 1, True, "number"), ["refused", 1, 1, "number"], ("refused", 1, 1),
                      ("refused", 1, 1, "end"), ("refused", 0, 1, "number"), ("refused", 1, 2, "number"), ("refused", 1, 1, "number", ()),
                      ("accepted", ((("place",),), (("place",), ("truth",), None))), ("refused", "1", 1, "number"), ("accepted",)):
            self.assertIs(code_holds(code, thing), False, thing)

    def test_any_value(self):
        code = one("truth", 0, 1, ("yes", 0), ("give", 0))
        for shape in (code, code + code, (), one("truth", 0, 1, ("yes", 0))):
            for thing in ODD_VALUES:
                self.assertIs(code_holds(shape, thing), False)
                for paper in (("accepted", thing), ("accepted", (thing,)), ("accepted", ((thing, ("truth",)),)), ("refused", thing, 0, "end")):
                    self.assertIs(code_holds(shape, paper), same_value(paper, judge_code(shape)))

    def test_rows_that_are_not_reached(self):
        code = one("place", 1, 2, ("give", 0), ("give", 0))
        for kinds, expected in ((None, True), (("place", None), False), ((None, None), False), ((), False), (False, False)):
            self.assertIs(code_holds(code, ("accepted", ((("place", None), kinds),))), expected)
        self.assertIs(code_holds(code, ("accepted", ((None, None),))), False)

    def test_certificates_of_other_code(self):
        codes = [one("truth", 0, 1, ("yes", 0), ("give", 0)), one("truth", 0, 2, ("yes", 0), ("give", 0)), one("place", 1, 1, ("give", 0)),
                 one("place", 0, 1, ("top", 0), ("give", 0)), one("truth", 0, 1, ("yes", 0)), one("truth", 0, 1, ("give", 0)), ()]
        for shape in codes:
            for other in codes:
                self.assertIs(code_holds(shape, judge_code(other)), judge_code(other) == judge_code(shape))


class Limits(unittest.TestCase):
    def test_many_rows_and_registers(self):
        rows = []
        for number in range(11990):
            register = 5 + number * 7 % 115
            if number % 3 == 1:
                # All of them lead to rows before which the register of the next "unless" is set.
                rows.append(("unless", rows[-1][1], min(number + 2 + number % 17 * 3, 11990)))
            else:
                rows.append(("top" if number % 3 else "yes", register))
        code = (("truth", 5, 120, tuple(rows) + (("yes", 5),) * 9 + (("give", 5),)),)
        begun = time.monotonic()
        paper = judge_code(code)
        self.assertEqual(paper[0], "accepted")
        self.assertIs(code_holds(code, paper), True)
        self.assertIs(is_accepted(code), True)
        self.assertEqual(judged_by_words(code), paper)
        self.assertLess(time.monotonic() - begun, 20)

    def test_many_functions(self):
        rows = (("move", 5, 0),) * 198 + (("call", 5, 59, (4, 3, 2, 1, 0)), ("give", 5))
        code = (("place", 5, 6, rows),) * 60
        self.assertEqual(judge_code(code)[0], "accepted")
        self.assertEqual(judge_code(code[1:]), ("refused", 0, 198, "number"))

    def test_more_registers_than_any_tuple_has_items(self):
        code = one("place", 1, 10 ** 39, ("top", 10 ** 38), ("give", 10 ** 38))
        self.assertIs(is_accepted(code), True)
        self.assertIs(code_holds(code, ("accepted", ((("place",), ("place",)),))), False)
        self.assertEqual(judge_code(one("place", 1, 10 ** 39, ("give", 10 ** 38))), ("refused", 0, 0, "unset"))
        self.assertIs(is_accepted(one("place", 10 ** 39, 10 ** 39, ("give", 10 ** 38))), True)
