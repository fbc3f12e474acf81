"""The limits of parts 2, 5, 8 and 9, for programs that are made."""

from eyesonly.compiler import call_number, compiled
from eyesonly.kinds import has_choice, is_program
from eyesonly.tables import reached
from eyesonly.tabling import calls_met, run_table
from eyesonly.texts import read, written
from tests.standings import terms_by_paths


def depth(term):
    """How deeply a term is nested."""
    parts = [item for item in term if isinstance(item, tuple)]
    if term[0] == "call":
        parts = term[2]
    return 1 + max([depth(part) for part in parts], default=0)


def check_program_limits(test, program):
    """A program is one without choice, within the limits of part 2, with a function "main" that asks about a tree."""
    test.assertIs(is_program(program), True)
    test.assertIs(has_choice(program), False)
    test.assertEqual([function[2:4] for function in program if function[1] == "main"], [("truth", ())])
    test.assertLessEqual(len(program), 40)
    test.assertLessEqual(sum(len(terms_by_paths(function[4])) for function in program), 3000)
    test.assertLessEqual(max(depth(function[4]) for function in program), 25)
    test.assertLessEqual(max(len(function[3]) for function in program), 5)
    test.assertLessEqual(len(written(program)), 40000)
    test.assertEqual(read(written(program)), program)


def check_code_limits(test, program):
    """The compiled code of a program is within the limits of part 7; the code."""
    code = compiled(program)
    test.assertLessEqual(sum(len(function[3]) for function in code), 12000)
    test.assertLessEqual(max(function[2] for function in code), 120)
    return code


def check_run_limits(test, program, tree):
    """The call of "main" is within the limits of parts 5 and 8; its outcome, found by the compiled code."""
    code = check_code_limits(test, program)
    f = call_number(program, "main")
    test.assertLessEqual(len(reached(program, tree, ("main", ()))), 4000)
    test.assertLessEqual(len(calls_met(code, tree, f, ())), 4000)
    word, outcome, rows = run_table(code, tree, f, ())
    test.assertEqual(word, "given")
    test.assertLessEqual(rows, 60000)
    return outcome
