"""Part 12: the whole chain, from the text of a program to the run of its code."""

from eyesonly.bounds import value_at
from eyesonly.codebounds import code_bound
from eyesonly.compiler import call_number, compiled
from eyesonly.meaning import check_call
from eyesonly.tabling import run_table
from eyesonly.texts import read
from eyesonly.trees import standing


def chain(text, tree, name, places):
    """The outcome of a call or "endless", how many rows were executed for it, and how many that can be at most."""
    program = read(text)
    code = compiled(program)
    check_call(program, tree, (name, places))
    most = value_at(code_bound(code), len(standing(tree)))
    word, value, rows = run_table(code, tree, call_number(program, name), places)
    return (value if word == "given" else word, rows, most)
