"""Part 10: head machines, their runs, and how they are made into last programs and made of them."""

from eyesonly.errors import BadMachine, BadName, BadPlaces
from eyesonly.integers import is_natural
from eyesonly.kinds import check_program
from eyesonly.last import check_last
from eyesonly.meaning import worked_out
from eyesonly.states import ENDS, StateMaker
from eyesonly.terms import is_name
from eyesonly.trees import WAYS, are_places, check_tree, is_tag, place_from, standing


def is_head(k, thing):
    """Whether any value is one of k heads."""
    return is_natural(thing) and thing < k


def is_test(k, thing):
    """Whether any value is a test with k heads."""
    if not isinstance(thing, tuple) or len(thing) < 2 or not is_head(k, thing[1]):
        return False
    if thing[0] == "empty":
        return len(thing) == 2
    if thing[0] == "has":
        return len(thing) == 3 and is_tag(thing[2])
    return thing[0] == "same" and len(thing) == 3 and is_head(k, thing[2])


def is_move(k, thing):
    """Whether any value is what one of k heads may do."""
    if isinstance(thing, tuple):
        return len(thing) == 2 and thing[0] == "to" and is_head(k, thing[1])
    return thing in WAYS


def are_moves(k, thing):
    """Whether any value is a tuple of moves with k heads."""
    if not isinstance(thing, tuple):
        return False
    below = -1
    for item in thing:
        if not isinstance(item, tuple) or len(item) != 2 or not is_head(k, item[0]) or not is_move(k, item[1]):
            return False
        if item[0] <= below:
            return False
        below = item[0]
    return True


def is_branch(k, names, thing):
    """Whether any value is a branch of a machine with k heads and states of these names."""
    if not isinstance(thing, tuple) or len(thing) != 2 or not isinstance(thing[0], str):
        return False
    return (thing[0] in ENDS or thing[0] in names) and are_moves(k, thing[1])


def is_machine(thing):
    """Whether any value is a head machine."""
    if not isinstance(thing, tuple) or len(thing) != 3 or thing[0] != "heads" or not is_natural(thing[1]):
        return False
    _, k, states = thing
    if not isinstance(states, tuple) or not states:
        return False
    names = {}
    for state in states:
        # The words "yes" and "no" are no names.
        if not isinstance(state, tuple) or len(state) != 4 or not is_name(state[0]) or state[0] in names:
            return False
        names[state[0]] = True
    for _, test, yes, no in states:
        if not is_test(k, test) or not is_branch(k, names, yes) or not is_branch(k, names, no):
            return False
    return True


def check_machine(machine):
    """Raise BadMachine if any value is not a head machine."""
    if not is_machine(machine):
        raise BadMachine(machine)


def passes(test, places, ground):
    """Whether a test holds with the heads at these places."""
    place = places[test[1]]
    if test[0] == "same":
        return place == places[test[2]]
    return worked_out(test, place, ground[place])


def after_moves(moves, places, ground):
    """Where the heads are after moves, all made at once."""
    result = list(places)
    for head, move in moves:
        if isinstance(move, tuple):
            result[head] = places[move[1]]
        else:
            result[head] = place_from(ground[places[head]], places[head], move)
    return tuple(result)


def run_heads(machine, tree, places):
    """What comes of a run of a head machine."""
    check_machine(machine)
    check_tree(tree)
    if not are_places(tree, machine[1], places):
        raise BadPlaces(places)
    ground = standing(tree)
    states = {state[0]: state for state in machine[2]}
    met = {}
    name = machine[2][0][0]
    here = places
    while (name, here) not in met:
        met[(name, here)] = len(met)
        _, test, yes, no = states[name]
        name, moves = yes if passes(test, here, ground) else no
        if name in ENDS:
            return ("given", name == "yes", len(met))
        here = after_moves(moves, here, ground)
    return ("endless", (name, here), len(met) - met[(name, here)])


def term_of_move(move, number, names):
    """The term for the place to which the head with a number moves."""
    if isinstance(move, tuple):
        return ("name", names[move[1]])
    return ("top",) if move == "top" else (move, ("name", names[number]))


def term_of_branch(branch, names):
    """The term that stands for a branch."""
    after, moves = branch
    if after in ENDS:
        return (after,)
    terms = [("name", name) for name in names]
    for head, move in moves:
        terms[head] = term_of_move(move, head, names)
    return ("call", after, tuple(terms))


def term_of_test(test, names):
    """The term that stands for a test."""
    return tuple([("name", names[item]) if isinstance(item, int) else item for item in test])


def heads_program(machine):
    """A last program with a function for each state of a head machine."""
    check_machine(machine)
    names = tuple([f"h{number}" for number in range(machine[1])])
    functions = []
    for name, test, yes, no in machine[2]:
        body = ("if", term_of_test(test, names), term_of_branch(yes, names), term_of_branch(no, names))
        functions.append(("fun", name, "truth", names, body))
    return tuple(functions)


def heads_of(program, name):
    """A head machine that does what a function of a last program does."""
    check_program(program)
    check_last(program)
    if name not in [function[1] for function in program if function[2] == "truth"]:
        raise BadName(name)
    return StateMaker(program, name).machine(name)
