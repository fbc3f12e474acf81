"""Part 8: calls of code, and the plain machine."""

from eyesonly.code import check_code
from eyesonly.errors import BadNumber, BadPlaces
from eyesonly.frames import Frame
from eyesonly.integers import is_natural
from eyesonly.trees import are_places, check_tree, standing


def is_number_of(code, thing):
    """Whether any value is the number of a function of what is known to be code."""
    return is_natural(thing) and thing < len(code)


def are_places_for(code, tree, f, thing):
    """Whether any value is a tuple of as many places as this function of the code has names."""
    return are_places(tree, code[f][1], thing)


def check_code_call(code, tree, f, places):
    """Raise the error for arguments that accept any values."""
    check_code(code)
    check_tree(tree)
    if not is_number_of(code, f):
        raise BadNumber(f)
    if not are_places_for(code, tree, f, places):
        raise BadPlaces(places)


def run_plain(code, tree, f, places, fuel):
    """What comes of a plain run of a call of code."""
    check_code_call(code, tree, f, places)
    if not is_natural(fuel):
        raise BadNumber(fuel)
    ground = standing(tree)
    frames = [Frame(code, ground, (f, places))]
    steps = frames[0].go_on()
    while steps <= fuel:
        asked = frames[-1].asked()
        if asked is None:
            outcome = frames.pop().outcome()
            if not frames:
                return ("given", outcome, steps)
            frames[-1].answer(outcome)
        else:
            frames.append(Frame(code, ground, asked))
        steps += frames[-1].go_on()
    return ("out",)
