"""Terms, scripts and programs for the tests, and what the document says of them, said once more."""

import random

from tests.helpers import chain, random_tree

PLACE_NAMES = ("x", "y", "z1", "w_w", "v")
TAGS = ("a", "b", "if", "abcdefgh")

# How many terms follow the word of a term; "has" and "call" have more than terms.
COUNTS = {
    "top": 0, "yes": 0, "no": 0, "left": 1, "right": 1, "up": 1, "empty": 1, "not": 1, "same": 2, "and": 2, "or": 2,
    "either": 2, "if": 3,
}


def random_term(source, depth):
    """A term of any shape, that need not fit."""
    word = source.choice(sorted(COUNTS) + ["name", "has", "call"]) if depth > 0 else source.choice(("name", "top", "yes"))
    if word == "name":
        return ("name", source.choice(PLACE_NAMES))
    if word == "has":
        return ("has", random_term(source, depth - 1), source.choice(TAGS + ("fun", "else", "top")))
    if word == "call":
        terms = tuple(random_term(source, depth - 1) for _ in range(source.randrange(4)))
        return ("call", source.choice(("f", "g", "h2", "x")), terms)
    return (word,) + tuple(random_term(source, depth - 1) for _ in range(COUNTS[word]))


def random_script(source, functions, depth):
    """A script of any shape, that need not fit."""
    made = []
    for _ in range(functions):
        names = tuple(source.choice(PLACE_NAMES) for _ in range(source.randrange(4)))
        kind = source.choice(("place", "truth"))
        made.append(("fun", source.choice(("f", "g", "h2")), kind, names, random_term(source, depth)))
    return tuple(made)


class ProgramMaker:
    """Makes programs at random, with or without choice."""

    def __init__(self, seed, choice):
        self.source = random.Random(seed)
        self.choice = choice
        self.heads = []
        self.names = ()

    def program(self, functions, most_names, depth):
        self.heads = []
        for at in range(functions):
            names = PLACE_NAMES[:self.source.randrange(most_names + 1)]
            self.heads.append((f"f{at}", self.source.choice(("place", "truth")), names))
        made = []
        for name, kind, names in self.heads:
            self.names = names
            made.append(("fun", name, kind, names, self.term(kind, depth)))
        return tuple(made)

    def term(self, kind, depth):
        source = self.source
        shapes = self.small_shapes(kind)
        if depth > 0 and source.random() < 0.85:
            shapes = self.large_shapes(kind)
        word, kinds = source.choice(shapes)
        if word == "name":
            return ("name", source.choice(self.names))
        if word == "call":
            name, _, names = source.choice([head for head in self.heads if head[1] == kind])
            return ("call", name, tuple(self.term("place", min(depth - 1, 2)) for _ in names))
        parts = tuple(self.term(part_kind, depth - 1) for part_kind in kinds)
        return (word,) + parts + ((source.choice(TAGS[:2]),) if word == "has" else ())

    def small_shapes(self, kind):
        if kind == "truth":
            return [("yes", ()), ("no", ())]
        return [("top", ())] + [("name", ())] * (3 if self.names else 0)

    def large_shapes(self, kind):
        places, truths = ("place",), ("truth",)
        shapes = [("if", truths + (kind, kind))]
        if self.choice:
            shapes += [("either", (kind, kind))] * 2
        if [head for head in self.heads if head[1] == kind]:
            shapes += [("call", ())] * 2
        if kind == "place":
            return shapes + [("left", places), ("right", places), ("up", places)]
        shapes += [("has", places), ("empty", places), ("same", places * 2), ("not", truths)]
        return shapes + [("and", truths * 2), ("or", truths * 2)]


def small_trees():
    source = random.Random(2)
    trees = [None, ("a", None, None), ("a", ("b", None, None), None), chain("lr"), chain("rr", "b")]
    return trees + [random_tree(source, nodes, ("a", "b")) for nodes in (3, 4, 5)]


def tree_parts(tree, place=""):
    """What stands at each place."""
    if tree is None:
        return {place: None}
    return {place: tree, **tree_parts(tree[1], place + "l"), **tree_parts(tree[2], place + "r")}


def moved(parts, place, way):
    """[1.2]: where a way leads."""
    if way == "up":
        return place[:-1]
    return place if parts[place] is None else place + way[0]


def tuples_of(values, many):
    """Each tuple of this length."""
    return [()] if many == 0 else [(value,) + rest for value in values for rest in tuples_of(values, many - 1)]


def all_calls(program, tree):
    """Every call of a program for a tree."""
    found = sorted(tree_parts(tree))
    return [(name, places) for _, name, _, names, _ in program for places in tuples_of(found, len(names))]
