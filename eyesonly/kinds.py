"""Part 3: the faults of scripts, and programs."""

from eyesonly.errors import BadProgram, BadScript, Choosing
from eyesonly.integers import is_plain_int
from eyesonly.terms import is_script, parts_of

FIT = ("fit",)

# The kinds of the terms that have one of their own, but for calls.
OWN_KINDS = {
    "name": "place", "top": "place", "left": "place", "right": "place", "up": "place",
    "yes": "truth", "no": "truth", "has": "truth", "empty": "truth", "same": "truth",
    "not": "truth", "and": "truth", "or": "truth",
}


def first_functions(script):
    """A dict that gives for each name the first function that has it."""
    first = {}
    for function in script:
        first.setdefault(function[1], function)
    return first


def kinds_within(term, kind):
    """The kinds that the parts of a term must be of, from left to right, if the term itself must be of this one."""
    word = term[0]
    if word == "if":
        return ("truth", kind, kind)
    if word == "either":
        return (kind, kind)
    if word in ("not", "and", "or"):
        return ("truth", "truth")
    return ("place",) * len(parts_of(term))


def paths_within(term):
    """The paths of the parts of a term in it, from left to right."""
    if term[0] == "call":
        return [(2, at) for at in range(len(term[2]))]
    return [(at + 1,) for at in range(len(parts_of(term)))]


def own_kind(term, first):
    """The kind that a term is of, None if it has none of its own."""
    if term[0] != "call":
        return OWN_KINDS.get(term[0])
    return first[term[1]][2] if term[1] in first else None


def faults_of_term(term, kind, names, first):
    """The words for the faults that a term itself has, but for its parts, if it must be of a kind."""
    found = []
    if term[0] == "name" and term[1] not in names:
        found.append("unknown")
    if term[0] == "call":
        if term[1] not in first:
            found.append("unknown")
        elif len(first[term[1]][3]) != len(term[2]):
            found.append("count")
    if own_kind(term, first) not in (kind, None):
        found.append("kind")
    return found


def faults_of_body(function, path, first):
    """The faults in the body of a function, which is at a path."""
    found = []
    waiting = [(function[4], function[2], path)]
    while waiting:
        term, kind, here = waiting.pop()
        for word in faults_of_term(term, kind, function[3], first):
            found.append((word, here))
        parts = list(zip(parts_of(term), kinds_within(term, kind), paths_within(term)))
        for part, part_kind, way in reversed(parts):
            waiting.append((part, part_kind, here + way))
    return found


def names_twice(script):
    """The faults of names that occur earlier."""
    found = []
    met = []
    for at, (_, name, _, names, _) in enumerate(script):
        if name in met:
            found.append(("twice", (at, 1)))
        met.append(name)
        for position, item in enumerate(names):
            if item in names[:position]:
                found.append(("twice", (at, 3, position)))
    return found


def faults_of(script):
    """The list of all certificates for the faults of a script."""
    first = first_functions(script)
    found = names_twice(script)
    for at, function in enumerate(script):
        found.extend(faults_of_body(function, (at, 4), first))
    return found


def judge_script(script):
    """A certificate for a script: that it fits, or one of its faults."""
    if not is_script(script):
        raise BadScript(script)
    found = faults_of(script)
    return found[0] if found else FIT


def is_path(thing):
    """Whether any value is a tuple of integers."""
    return isinstance(thing, tuple) and all(is_plain_int(item) for item in thing)


def script_holds(script, thing):
    """Whether any value is a certificate for a script."""
    if not is_script(script):
        raise BadScript(script)
    found = faults_of(script)
    if not found:
        return thing == FIT
    return isinstance(thing, tuple) and len(thing) == 2 and is_path(thing[1]) and thing in found


def is_program(thing):
    """Whether any value is a program."""
    return is_script(thing) and not faults_of(thing)


def check_program(program):
    """Raise BadProgram if any value is not a program."""
    if not is_program(program):
        raise BadProgram(program)


def chooses(term):
    """Whether some term in a term, or this itself, is an either."""
    waiting = [term]
    while waiting:
        part = waiting.pop()
        if part[0] == "either":
            return True
        waiting.extend(parts_of(part))
    return False


def choosing_names(program):
    """The names of the functions with an either, in order."""
    return [function[1] for function in program if chooses(function[4])]


def has_choice(program):
    """Whether a program has choice."""
    check_program(program)
    return bool(choosing_names(program))


def check_without_choice(program):
    """Raise Choosing if what is known to be a program has choice."""
    names = choosing_names(program)
    if names:
        raise Choosing(names[0])
