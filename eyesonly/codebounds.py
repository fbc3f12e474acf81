"""Part 7: the bounds that are read off the rows of code."""

from eyesonly.bounds import poly_of
from eyesonly.code import check_code


def bound_of_rows(function):
    """What a code function adds to the bound: an exponent and a coefficient."""
    _, many, _, rows = function
    calls = [row for row in rows if row[0] == "call"]
    return (many, (1 + len(calls)) * len(rows))


def code_bound(code):
    """The polynomial within which the table machine runs accepted code."""
    check_code(code)
    return poly_of([bound_of_rows(function) for function in code])
