"""What several tests use: odd values, values with one part changed, and examples of the document."""

import copy
import random


def nested(depth, kind):
    """Something odd that is nested as deeply as any value may be."""
    value = "a"
    for _ in range(depth):
        value = kind(value)
    return value


ODD_VALUES = [
    None, True, False, 0, 1, 2, -1, 10 ** 39, -10 ** 39, "", "a", "b", "l", "r", "lr", "x", "f", "top", "yes", "left",
    "place", "truth", "fun", "A", "a b", "abcdefgh", "abcdefghi", "\n", "~" * 3000, "l" * 3000,
    (), ("a",), ("a", None), ("a", None, None), ("a", None, None, None), (None, None, None), (True, None, None),
    ("top",), ("yes",), ("name", "x"), ("fit",), (0,), (True,), (0, 4), ("f", ()), ("f", ("",)),
    [], ["a", None, None], ["top"], ["fit"], [()], {}, {"a": None}, {"f": ()}, {1: [2, (3, {4: 5})]},
    nested(12, lambda value: (value,)), nested(12, lambda value: [value]), nested(12, lambda value: {"a": value}),
    nested(12, lambda value: ("a", value, None)), nested(12, lambda value: ("not", value)), ("a",) * 3000,
]

FEW_ODD_VALUES = [None, True, False, 0, -1, 1, "", "a", "x", "A", "top", "abcdefghi", (), ("top",), ["top"], {"a": 1}]


def changed(value, odd_values=FEW_ODD_VALUES):
    """Every value that comes of one change of a part of a tuple: replaced, left out, doubled, exchanged, a list."""
    for odd in odd_values:
        yield odd
    if not isinstance(value, tuple):
        return
    yield list(value)
    for at, item in enumerate(value):
        yield value[:at] + value[at + 1:]
        yield value[:at] + (item,) + value[at:]
        if at + 1 < len(value):
            yield value[:at] + (value[at + 1], item) + value[at + 2:]
        for other in changed(item, odd_values):
            yield value[:at] + (other,) + value[at + 1:]
    yield value + (None,)


def check_changed(test, holds, papers, odd_values):
    """Certificates hold, and of all that come of one change of one of them, some still hold and most do not.

    Each of papers is a tuple of arguments of holds, the last one being the certificate.
    """
    found = {True: 0, False: 0}
    for *values, paper in papers:
        test.assertTrue(holds(*values, paper), (values, paper))
        for other in changed(paper, odd_values):
            found[holds(*values, other)] += 1
    test.assertGreater(found[True], 15)
    test.assertGreater(found[False], 1000)


def changed_texts(text, signs):
    """Every text that comes of one change of a sign: cut short, left out, doubled, exchanged, replaced or put in."""
    for at in range(len(text) + 1):
        yield text[:at]
        yield text[:at] + text[at + 1:]
        yield text[:at] + text[at:at + 1] + text[at:]
        yield text[:at] + text[at + 1:at + 2] + text[at:at + 1] + text[at + 2:]
        for sign in signs:
            yield text[:at] + sign + text[at:]
            yield text[:at] + sign + text[at + 1:]


def random_tree(source, nodes, tags=("a", "b", "if", "abcdefgh")):
    """A tree with this many nodes."""
    if nodes == 0:
        return None
    left = source.randrange(nodes)
    if source.random() < 0.3:
        left = source.choice((0, nodes - 1))
    return (source.choice(tags), random_tree(source, left, tags), random_tree(source, nodes - 1 - left, tags))


def chain(letters, tag="a"):
    """The tree with a node at each beginning of a string of the letters l and r, except the whole."""
    tree = None
    for letter in reversed(letters):
        tree = (tag, tree, None) if letter == "l" else (tag, None, tree)
    return tree


def some_trees():
    """Trees of each size, also as large and as deep as they may be."""
    source = random.Random(11)
    found = [None, ("a", None, None), ("a", ("b", None, None), None), chain("l" * 40), chain("r" * 40), chain("lr" * 20)]
    found += [random_tree(source, nodes) for nodes in range(1, 61) if nodes < 12 or nodes % 12 == 0]
    return [tree for tree in found if deepest(tree) <= 40]


def deepest(tree):
    """How many letters the longest place of a tree has."""
    return 0 if tree is None else 1 + max(deepest(tree[1]), deepest(tree[2]))


def outcome_of(function, /, *values, **named):
    """What a call returns, or its error with the attribute."""
    try:
        return ("returned", function(*values, **named))
    except Exception as error:
        attribute = "at" if hasattr(error, "at") else "thing"
        return ("raised", error.__class__.__name__, getattr(error, attribute, error))


def same_value(one, other):
    """Whether two values are equal, and alike in where they have bools and integers, tuples and lists."""
    if one.__class__ is not other.__class__:
        return False
    if isinstance(one, (tuple, list)):
        return len(one) == len(other) and all(same_value(*pair) for pair in zip(one, other))
    return one == other


def check_raises(test, name, attribute, function, /, *values, **named):
    """A call raises the error of this name, whose thing or at is this; and it leaves what it is passed unchanged."""
    before = copy.deepcopy((values, named))
    found = outcome_of(function, *values, **named)
    test.assertEqual(found[:2], ("raised", name), (function, values, named))
    test.assertTrue(same_value(found[2], attribute), found)
    test.assertEqual((values, named), before)


def check_examples(test, text):
    """The examples of the document hold, word for word."""
    names = {}
    lines = text.strip("\n").split("\n")
    for at, line in enumerate(lines):
        if not line.startswith(">>> "):
            continue
        expected = lines[at + 1] if at + 1 < len(lines) and not lines[at + 1].startswith(">>> ") else None
        source = line[len(">>> "):]
        if expected is None:
            exec(source, names)
        elif expected.startswith("raises "):
            test.assertEqual(raised_by(source, names), expected)
        else:
            test.assertEqual(repr(eval(source, names)), expected)


def raised_by(source, names):
    """The error of an expression, written as in the document."""
    kind, name, value = outcome_of(eval, source, names)
    attribute = "at" if name == "BadText" else "thing"
    return f"raises {name}({attribute}={value!r})" if kind == "raised" else "returns"


def check_order(test, function, good, wrong):
    """If several arguments are wrong, the error is that of the first one.

    good gives the arguments by name, in their order; wrong gives for some of them a value, the name of the error for
    it, and what the error holds.
    """
    names = list(good)
    for chosen in range(1, 2 ** len(wrong)):
        bad = [name for at, name in enumerate(wrong) if chosen >> at & 1]
        values = {name: wrong[name][0] if name in bad else good[name] for name in names}
        first = min(bad, key=names.index)
        check_raises(test, wrong[first][1], wrong[first][2], function, *values.values())
        check_raises(test, wrong[first][1], wrong[first][2], function, **values)
