"""Part 11: tape machines and their runs with a clock."""

from eyesonly.bounds import power
from eyesonly.errors import BadMachine, BadNumber
from eyesonly.integers import is_natural, is_plain_int
from eyesonly.trees import check_tree, is_tag, standing


def is_rule(signs, many, thing):
    """Whether any value is a rule of a machine with so many signs and states."""
    if not isinstance(thing, tuple) or len(thing) != 3 or not all(is_plain_int(item) for item in thing):
        return False
    return 0 <= thing[0] <= many + 1 and 0 <= thing[1] < signs and -1 <= thing[2] <= 1


def is_state(signs, many, thing):
    """Whether any value is a state of a machine with so many signs and states."""
    return isinstance(thing, tuple) and len(thing) == signs and all(is_rule(signs, many, item) for item in thing)


def are_unlike_tags(thing):
    """Whether any value is a tuple of tags, none of them twice."""
    return isinstance(thing, tuple) and all(is_tag(item) for item in thing) and len(set(thing)) == len(thing)


def is_tape(thing):
    """Whether any value is a tape machine."""
    if not isinstance(thing, tuple) or len(thing) != 4 or thing[0] != "tape":
        return False
    _, tags, signs, states = thing
    if not are_unlike_tags(tags) or not is_plain_int(signs) or signs < len(tags) + 2:
        return False
    return isinstance(states, tuple) and bool(states) and all(is_state(signs, len(states), item) for item in states)


def is_clock(thing):
    """Whether any value is an integer from 1 on."""
    return is_natural(thing) and thing > 0


def check_clocked(machine, tree, c):
    """Raise the error for arguments that accept any values."""
    if not is_tape(machine):
        raise BadMachine(machine)
    check_tree(tree)
    if not is_clock(c):
        raise BadNumber(c)


def sign_of(part, tags):
    """The sign of a place at which this part stands."""
    if part is None:
        return 0
    return 1 + tags.index(part[0]) if part[0] in tags else 1 + len(tags)


def cells_at_first(tags, tree, c):
    """The list of the signs in all cells at the beginning."""
    cells = [sign_of(part, tags) for part in standing(tree).values()]
    return cells + [0] * (power(len(cells), c) - len(cells))


def stands_after(machine, cells, many):
    """The standing after many steps from the beginning with these cells."""
    _, _, _, states = machine
    state = 0
    head = 0
    for _ in range(many):
        if state >= len(states):
            break
        state, cells[head], move = states[state][cells[head]]
        head = min(max(head + move, 0), len(cells) - 1)
    return (state, head, tuple(cells))


def tape_standing(machine, tree, c, many):
    """The standing of a tape machine on a tree after many steps."""
    check_clocked(machine, tree, c)
    if not is_natural(many):
        raise BadNumber(many)
    return stands_after(machine, cells_at_first(machine[1], tree, c), many)


def tape_outcome(machine, tree, c):
    """Whether a tape machine has come to the end with yes when its clock has run down."""
    check_clocked(machine, tree, c)
    cells = cells_at_first(machine[1], tree, c)
    return stands_after(machine, cells, len(cells) - 1)[0] == len(machine[3])
