"""Part 4: calls, and their plain runs."""

from eyesonly.errors import BadCall, BadNumber, BadPicks
from eyesonly.integers import is_natural
from eyesonly.kinds import check_program, first_functions
from eyesonly.terms import parts_of
from eyesonly.trees import are_places, check_tree, place_from, standing

CONSTANTS = {"top": "", "yes": True, "no": False}
PICKS = ("l", "r")


def is_call_of(program, tree, thing):
    """Whether any value is a call of what is known to be a program, for what is known to be a tree."""
    if not isinstance(thing, tuple) or len(thing) != 2:
        return False
    many = [len(function[3]) for function in program if function[1] == thing[0]]
    return bool(many) and are_places(tree, many[0], thing[1])


def is_call(program, tree, thing):
    """Whether any value is a call."""
    check_program(program)
    check_tree(tree)
    return is_call_of(program, tree, thing)


def check_call(program, tree, call):
    """Raise BadTree or BadCall if any values are not a tree and a call of what is known to be a program."""
    check_tree(tree)
    if not is_call_of(program, tree, call):
        raise BadCall(call)


def worked_out(term, value, part):
    """The value of a term with one part, from the value of that part and, if it is a place, what stands there.

    A row of code that reads one register may stand in place of the term; in both a tag is the last item.
    """
    word = term[0]
    if word == "not":
        return not value
    if word == "has":
        return part is not None and part[0] == term[-1]
    if word == "empty":
        return part is None
    return place_from(part, value, word)


def decided(word, truth):
    """The number of the part of an "and", "or" or "if" to which a truth of its first part leads, 0 for none."""
    if word == "if":
        return 2 if truth else 3
    return 2 if truth == (word == "and") else 0


class Run:
    """A plain run. What is still to be done is a list, since thousands of calls may wait for one another.

    An item of it is (True, term, names) for a term that is to be evaluated, and (False, term, names) for a term of
    which parts were evaluated; names gives the places of the names. The values of these parts are at the end of got.
    """

    def __init__(self, program, tree, picks, fuel):
        self.functions = first_functions(program)
        self.ground = standing(tree)
        self.picks = picks
        self.taken = 0
        self.fuel = fuel
        self.steps = 0
        self.waiting = []
        self.got = []

    def enter(self, name, places):
        """Let the body of a function be evaluated next."""
        function = self.functions[name]
        self.waiting.append((True, function[4], dict(zip(function[3], places))))

    def outcome(self, call):
        """Run a call; the result of run."""
        self.enter(call[0], call[1])
        while self.waiting:
            begins, term, names = self.waiting.pop()
            if not begins:
                self.finish(term, names)
                continue
            self.steps += 1
            if self.steps > self.fuel:
                return ("cut",)
            if term[0] == "either" and self.taken == len(self.picks):
                return ("open", self.steps)
            self.begin(term, names)
        return ("outcome", self.got.pop(), self.steps)

    def begin(self, term, names):
        """Begin to evaluate a term."""
        word = term[0]
        if word == "name":
            self.got.append(names[term[1]])
        elif word in CONSTANTS:
            self.got.append(CONSTANTS[word])
        elif word == "either":
            picked = term[1] if self.picks[self.taken] == "l" else term[2]
            self.taken += 1
            self.waiting.append((True, picked, names))
        else:
            self.waiting.append((False, term, names))
            parts = term[1:2] if word in ("and", "or", "if") else parts_of(term)
            for part in reversed(parts):
                self.waiting.append((True, part, names))

    def finish(self, term, names):
        """Go on with a term whose parts were evaluated, or whose first part was, if this decides about the others."""
        word = term[0]
        if word == "call":
            first = len(self.got) - len(term[2])
            places = self.got[first:]
            del self.got[first:]
            self.enter(term[1], places)
            return
        value = self.got.pop()
        if word == "same":
            self.got.append(self.got.pop() == value)
        elif word in ("and", "or", "if"):
            at = decided(word, value)
            if at:
                self.waiting.append((True, term[at], names))
            else:
                self.got.append(value)
        else:
            self.got.append(worked_out(term, value, self.ground.get(value)))


def run(program, tree, call, picks, fuel):
    """What comes of a plain run of a call."""
    check_program(program)
    check_call(program, tree, call)
    if not isinstance(picks, str) or not all(letter in PICKS for letter in picks):
        raise BadPicks(picks)
    if not is_natural(fuel):
        raise BadNumber(fuel)
    return Run(program, tree, picks, fuel).outcome(call)
