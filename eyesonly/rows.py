"""Part 7: the rows of code."""

from eyesonly.integers import is_natural
from eyesonly.trees import is_tag

# What stands behind the word of a row: d is a register that is set, s one that is read, a are registers that are read,
# k is the number of a row, f that of a function, and t a tag.
ROW_SHAPES = {
    "top": "d", "move": "ds", "left": "ds", "right": "ds", "up": "ds", "yes": "d", "no": "d", "has": "dst",
    "empty": "ds", "same": "dss", "not": "ds", "skip": "k", "unless": "sk", "call": "dfa", "give": "s",
}


def is_item(letter, thing):
    """Whether any value can stand where this letter is in the shape of a row."""
    if letter == "t":
        return is_tag(thing)
    if letter == "a":
        return isinstance(thing, tuple) and all(is_natural(item) for item in thing)
    return is_natural(thing)


def is_row(thing):
    """Whether any value is a row."""
    if not isinstance(thing, tuple) or not thing or not isinstance(thing[0], str) or thing[0] not in ROW_SHAPES:
        return False
    shape = ROW_SHAPES[thing[0]]
    return len(thing) == 1 + len(shape) and all(is_item(letter, item) for letter, item in zip(shape, thing[1:]))


def items_at(row, letter):
    """The items of a row that stand where this letter is in its shape."""
    return [item for sign, item in zip(ROW_SHAPES[row[0]], row[1:]) if sign == letter]


def registers_read(row):
    """The registers that a row reads, in the order in which, and as often as, they are in it."""
    return row[3] if row[0] == "call" else tuple(items_at(row, "s"))


def register_set(row):
    """The register that a row sets, None if it sets none."""
    found = items_at(row, "d")
    return found[0] if found else None
