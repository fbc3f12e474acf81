"""The bounds of code: point [7.4]. That runs keep to them is tested with the table machine."""

import unittest

from eyesonly.bounds import is_poly
from eyesonly.code import is_accepted
from eyesonly.codebounds import code_bound
from tests.codes import CodeMaker
from tests.helpers import ODD_VALUES, check_raises

GIVES = {many: ("place", many, many + 1, (("top", many), ("give", many))) for many in range(6)}
CALLS = ("truth", 1, 2, (("call", 1, 0, (0,)), ("unless", 1, 3), ("call", 1, 0, (0,)), ("give", 1)))


class CodeBounds(unittest.TestCase):
    def check(self, code, expected):
        self.assertEqual(code_bound(code), expected)
        self.assertIs(is_poly(code_bound(code)), True)

    def test_the_code_without_functions(self):
        self.check((), ())

    def test_one_function(self):
        for many in range(6):
            self.check((GIVES[many],), ((many, 2),))
        self.check((CALLS,), ((1, 12),))
        self.check((("place", 1, 1, (("give", 0),)),), ((1, 1),))

    def test_coefficients_are_summed(self):
        self.check((GIVES[1], GIVES[1], GIVES[1]), ((1, 6),))
        self.check((CALLS, GIVES[0], GIVES[1], GIVES[3], GIVES[0]), ((0, 4), (1, 14), (3, 2)))
        self.check((GIVES[5], GIVES[2], GIVES[5], GIVES[0], GIVES[2]), ((0, 2), (2, 4), (5, 4)))

    def test_rows_that_are_not_reached(self):
        self.check((("place", 1, 1, (("give", 0), ("give", 0), ("give", 0))),), ((1, 3),))
        self.check((("place", 1, 1, (("give", 0), ("call", 0, 0, ()), ("call", 0, 0, (0,)))),), ((1, 9),))
        self.check((("place", 2, 2, (("skip", 2), ("call", 0, 0, (0,)), ("give", 0))),), ((2, 6),))

    def test_calls_of_the_same_and_of_other_functions(self):
        code = (("place", 1, 1, (("call", 0, 0, (0,)), ("call", 0, 1, ()), ("give", 0))), GIVES[0])
        self.check(code, ((0, 2), (1, 9)))

    def test_large_code(self):
        rows = (("call", 5, 0, (0, 1, 2, 3, 4)),) * 199 + (("give", 5),)
        self.check((("place", 5, 6, rows),) * 60, ((5, 60 * 200 * 200),))

    def test_random_code(self):
        maker = CodeMaker(127)
        for size in range(200):
            code = maker.code(size % 6, size % 6, 1 + size % 14) if size % 6 else ()
            sums = {}
            for _, many, _, rows in code:
                calls = sum(row[0] == "call" for row in rows)
                sums[many] = sums.get(many, 0) + len(rows) + calls * len(rows)
            self.check(code, tuple(sorted(sums.items())))

    def test_errors(self):
        refused = (("place", 1, 1, (("give", 0), ("give", 1))),)
        for thing in ODD_VALUES + [refused, (("place", 1, 1, ()),), [GIVES[0]], (list(GIVES[0]),), (CALLS,) + refused]:
            if thing != ():
                self.assertIs(is_accepted(thing), False)
                check_raises(self, "BadCode", thing, code_bound, thing)
                self.assertRaises(Exception, code_bound, code=thing)
