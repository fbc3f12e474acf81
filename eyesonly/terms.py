"""Part 2: the shapes of names, terms and scripts."""

from eyesonly.trees import LETTERS, is_tag

NAME_SIGNS = "abcdefghijklmnopqrstuvwxyz0123456789_"
NAME_LENGTH = 20
WORDS = (
    "fun", "place", "truth", "if", "then", "else", "either", "not", "and", "or", "yes", "no",
    "top", "left", "right", "up", "has", "empty", "same",
)
KINDS = ("place", "truth")

# How many terms follow the word in the terms that consist of a word and terms alone.
PLAIN_SHAPES = {
    "top": 0, "yes": 0, "no": 0, "left": 1, "right": 1, "up": 1, "empty": 1, "not": 1,
    "same": 2, "and": 2, "or": 2, "either": 2, "if": 3,
}


def is_name(thing):
    """Whether any value is a name."""
    if not isinstance(thing, str) or not 1 <= len(thing) <= NAME_LENGTH or thing in WORDS:
        return False
    return thing[0] in LETTERS and all(sign in NAME_SIGNS for sign in thing)


def are_names(thing):
    """Whether any value is a tuple of names."""
    return isinstance(thing, tuple) and all(is_name(item) for item in thing)


def parts_of(term):
    """The terms that stand directly in a term, from left to right."""
    word = term[0]
    if word == "name":
        return ()
    if word == "has":
        return (term[1],)
    if word == "call":
        return term[2]
    return term[1:]


def is_headed(thing):
    """Whether any value is a term, if the values in the places of its terms are terms."""
    if not isinstance(thing, tuple) or not thing or not isinstance(thing[0], str):
        return False
    word = thing[0]
    if word == "name":
        return len(thing) == 2 and is_name(thing[1])
    if word == "has":
        return len(thing) == 3 and is_tag(thing[2])
    if word == "call":
        return len(thing) == 3 and is_name(thing[1]) and isinstance(thing[2], tuple)
    return word in PLAIN_SHAPES and len(thing) == 1 + PLAIN_SHAPES[word]


def is_term(thing):
    """Whether any value is a term."""
    waiting = [thing]
    while waiting:
        term = waiting.pop()
        if not is_headed(term):
            return False
        waiting.extend(parts_of(term))
    return True


def is_function(thing):
    """Whether any value is a function of a script."""
    if not isinstance(thing, tuple) or len(thing) != 5 or thing[0] != "fun":
        return False
    return is_name(thing[1]) and thing[2] in KINDS and are_names(thing[3]) and is_term(thing[4])


def is_script(thing):
    """Whether any value is a script."""
    return isinstance(thing, tuple) and all(is_function(item) for item in thing)
