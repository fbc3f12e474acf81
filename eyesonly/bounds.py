"""Part 6: polynomials, and the bounds that are read off programs."""

from eyesonly.errors import BadNumber, BadPoly
from eyesonly.integers import is_natural
from eyesonly.kinds import check_program, check_without_choice
from eyesonly.terms import parts_of


def is_pair(thing):
    """Whether any value is a pair of an exponent and a coefficient."""
    if not isinstance(thing, tuple) or len(thing) != 2:
        return False
    return is_natural(thing[0]) and is_natural(thing[1]) and thing[1] > 0


def is_poly(thing):
    """Whether any value is a polynomial."""
    if not isinstance(thing, tuple) or not all(is_pair(item) for item in thing):
        return False
    return all(thing[at][0] < thing[at + 1][0] for at in range(len(thing) - 1))


def power(base, exponent):
    """A number to the power of another one."""
    found = 1
    factor = base
    left = exponent
    # Squaring gets along with exponents beyond all limits where the base is 0 or 1.
    while left:
        if left & 1:
            found = found * factor
        factor = factor * factor
        left = left >> 1
    return found


def value_at(poly, number):
    """The value of a polynomial at a number."""
    if not is_poly(poly):
        raise BadPoly(poly)
    if not is_natural(number):
        raise BadNumber(number)
    return sum([coefficient * power(number, exponent) for exponent, coefficient in poly])


def poly_of(pairs):
    """The polynomial that is the sum of terms, given by pairs of an exponent and a coefficient from 1 on."""
    sums = {}
    for exponent, coefficient in pairs:
        sums[exponent] = sums.get(exponent, 0) + coefficient
    return tuple(sorted(sums.items()))


def width(program):
    """The polynomial of the number of all calls."""
    check_program(program)
    return poly_of([(len(function[3]), 1) for function in program])


def words_of(term):
    """The words of all terms in a term, and of this itself."""
    found = []
    waiting = [term]
    while waiting:
        part = waiting.pop()
        found.append(part[0])
        waiting.extend(parts_of(part))
    return found


def bound_of(function):
    """What a function adds to the bound: an exponent and a coefficient."""
    words = words_of(function[4])
    return (len(function[3]), (1 + words.count("call")) * len(words))


def bound(program):
    """The polynomial within which all reached calls of a program without choice are evaluated."""
    check_program(program)
    check_without_choice(program)
    return poly_of([bound_of(function) for function in program])
