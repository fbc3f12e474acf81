"""Part 10: last programs, which run without a stack of calls."""

from eyesonly.errors import NotLast
from eyesonly.kinds import check_program, first_functions, is_path, paths_within
from eyesonly.lots import Sight
from eyesonly.meaning import check_call
from eyesonly.terms import parts_of
from eyesonly.trees import standing

LAST = ("last",)


def last_within(term):
    """For each part of a term at a last position, from left to right, whether it is at a last position, too."""
    word = term[0]
    if word == "if":
        return (False, True, True)
    if word in ("and", "or"):
        return (False, True)
    return (False,) * len(parts_of(term))


def refusal_of(function):
    """The certificate that a function keeps its program from being last, None if it does not."""
    waiting = [(function[4], (), True)]
    while waiting:
        term, path, at_last = waiting.pop()
        if term[0] == "either":
            return ("choice", function[1], path)
        if term[0] == "call" and not at_last:
            return ("within", function[1], path)
        parts = list(zip(parts_of(term), paths_within(term), last_within(term)))
        for part, way, stays in reversed(parts):
            waiting.append((part, path + way, at_last and stays))
    return None


def paper_of(program):
    """The certificate for what is known to be a program."""
    for function in program:
        refusal = refusal_of(function)
        if refusal:
            return refusal
    return LAST


def check_last(program):
    """Raise NotLast if what is known to be a program is not last."""
    paper = paper_of(program)
    if paper != LAST:
        raise NotLast(paper)


def judge_last(program):
    """The certificate that a program is last, or why it is not."""
    check_program(program)
    return paper_of(program)


def last_holds(program, thing):
    """Whether any value is the certificate for a program."""
    paper = judge_last(program)
    # True and False equal numbers, but are none.
    return thing == paper and (paper == LAST or is_path(thing[2]))


def is_last(program):
    """Whether a program is last."""
    return judge_last(program) == LAST


def run_last(program, tree, name, places):
    """What comes of a run of a last program, one standing call after the other."""
    check_program(program)
    check_last(program)
    check_call(program, tree, (name, places))
    # Without any lots, a body of a last program has a value, or else demands just the call that stands next.
    sight = Sight(first_functions(program), standing(tree), {})
    met = {}
    call = (name, places)
    while call not in met:
        met[call] = len(met)
        values = sight.values_of_body(call)
        if values:
            return ("given", values[0], len(met))
        call = list(sight.demanded)[0]
    return ("endless", call, len(met) - met[call])
