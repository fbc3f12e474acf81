"""Part 13: a simplifier, which makes programs smaller step by step."""

from eyesonly.bounds import words_of
from eyesonly.errors import BadStep
from eyesonly.kinds import check_program, first_functions, is_path, paths_within
from eyesonly.lots import Sight
from eyesonly.terms import parts_of

PLAIN_TRUTHS = (("yes",), ("no",))
STEADY = ("name", "top")


def with_part(value, path, part):
    """A tuple with another thing at a path."""
    if not path:
        return part
    at = path[0]
    return value[:at] + (with_part(value[at], path[1:], part),) + value[at + 1:]


def part_of(value, path):
    """What is at a path in a tuple."""
    part = value
    for at in path:
        part = part[at]
    return part


def is_known(term):
    """Whether a term consists of "not", "and", "or", "yes" and "no" alone."""
    return all(word in ("not", "and", "or", "yes", "no") for word in words_of(term))


def may_be_inlined(term, functions):
    """Whether the body of its function can stand in place of a call."""
    if not all(part[0] in STEADY for part in term[2]):
        return False
    return "call" not in words_of(functions[term[1]][4])


def words_for(term, functions):
    """The words of the steps that apply to a term itself."""
    word = term[0]
    if word == "if":
        return ["branch"] if term[1] in PLAIN_TRUTHS else []
    if word == "call":
        return ["inline"] if may_be_inlined(term, functions) else []
    if word == "up":
        return ["lift"] if term[1] == ("top",) else []
    if word == "same":
        return ["self"] if term[1] == term[2] and term[1][0] in STEADY else []
    if word not in ("not", "and", "or"):
        return []
    words = ["known"] if is_known(term) else []
    if word == "not" and term[1][0] == "not":
        words.append("twice")
    return words


def ascending_steps(program):
    """The ascending list of all simplifying steps of what is known to be a program."""
    functions = first_functions(program)
    steps = []
    waiting = [(function[4], (number, 4)) for number, function in enumerate(program)]
    while waiting:
        term, path = waiting.pop()
        steps.extend([(word, path) for word in words_for(term, functions)])
        waiting.extend([(part, path + way) for part, way in zip(parts_of(term), paths_within(term))])
    return sorted(steps)


def with_terms(term, terms):
    """A term with others in place of its names."""
    if term[0] == "name":
        return terms[term[1]]
    result = term
    for part, way in zip(parts_of(term), paths_within(term)):
        result = with_part(result, way, with_terms(part, terms))
    return result


def replaced(word, term, functions):
    """What stands in place of a term after a step."""
    if word == "branch":
        return term[2] if term[1] == ("yes",) else term[3]
    if word == "inline":
        function = functions[term[1]]
        return with_terms(function[4], dict(zip(function[3], term[2])))
    if word == "known":
        # Such a term looks neither at a tree nor at lots.
        return ("yes",) if True in Sight({}, {}, {}).values_of(term) else ("no",)
    if word == "lift":
        return ("top",)
    return ("yes",) if word == "self" else term[1][1]


def taken(program, step):
    """The program after one of its simplifying steps."""
    word, path = step
    return with_part(program, path, replaced(word, part_of(program, path), first_functions(program)))


def steps_from(program):
    """The ascending tuple of all simplifying steps."""
    check_program(program)
    return tuple(ascending_steps(program))


def is_step(program, thing):
    """Whether any value is a simplifying step."""
    check_program(program)
    # True and False equal numbers, but are none.
    return thing in ascending_steps(program) and is_path(thing[1])


def after_step(program, step):
    """The program after a simplifying step."""
    if not is_step(program, step):
        raise BadStep(step)
    return taken(program, step)


def simplified(program):
    """The program after simplifying."""
    check_program(program)
    result = program
    steps = ascending_steps(result)
    while steps:
        result = taken(result, steps[0])
        steps = ascending_steps(result)
    return result
