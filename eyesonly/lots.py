"""Part 5: the values of bodies with given lots, and what the bodies demand."""

from eyesonly.meaning import CONSTANTS, decided, worked_out


def ascending(found):
    """The ascending tuple of the values in a list."""
    return tuple(sorted(set(found))) if len(found) > 1 else tuple(found)


def rows_of(choices):
    """Each tuple that has at each position one of the values given for it."""
    rows = [()]
    for values in choices:
        rows = [row + (value,) for row in rows for value in values]
    return rows


def compared(some, others):
    """Each truth whether a value of one tuple equals one of another; in both no value comes twice."""
    if not some or not others:
        return ()
    found = [True] if any(value in others for value in some) else []
    if len(some) > 1 or some != others:
        found.append(False)
    return ascending(found)


class Sight:
    """What is seen when the body of a call is looked at with given lots; a call that has no lot has the lot ().

    The calls that are demanded are the keys of demanded, in the order in which they came up.
    """

    def __init__(self, functions, ground, lots):
        self.functions = functions
        self.ground = ground
        self.lots = lots
        self.places = {}
        self.demanded = {}

    def values_of_body(self, call):
        """The values of the body of a call."""
        name, places = call
        function = self.functions[name]
        self.places = dict(zip(function[3], places))
        self.demanded = {}
        return self.values_of(function[4])

    def values_of(self, term):
        """The values of a term in this body."""
        word = term[0]
        if word == "name":
            return (self.places[term[1]],)
        if word in CONSTANTS:
            return (CONSTANTS[word],)
        if word == "call":
            return self.values_of_call(term)
        if word == "same":
            return compared(self.values_of(term[1]), self.values_of(term[2]))
        if word == "either":
            return ascending([*self.values_of(term[1]), *self.values_of(term[2])])
        if word in ("and", "or", "if"):
            return self.values_decided(term)
        values = self.values_of(term[1])
        return ascending([worked_out(term, value, self.ground.get(value)) for value in values])

    def values_decided(self, term):
        """The values of a term whose first part decides which other one is asked for its values."""
        found = []
        for truth in self.values_of(term[1]):
            at = decided(term[0], truth)
            if at:
                found.extend(self.values_of(term[at]))
            else:
                found.append(truth)
        return ascending(found)

    def values_of_call(self, term):
        """The values of a call, and all calls that are demanded for it."""
        choices = [self.values_of(part) for part in term[2]]
        found = []
        for call in self.calls_of(term[1], choices):
            self.demanded[call] = True
            found.extend(self.lots.get(call, ()))
        return ascending(found)

    def calls_of(self, name, choices):
        """Each call of a function that has at each position one of the places given for it."""
        return [(name, places) for places in rows_of(choices)]

    def stuck_at(self, call):
        """The call at which the body of a call is stuck, None if there is none; for lots of at most one value."""
        self.values_of_body(call)
        # With such lots, calls are demanded in the order in which the evaluation comes to them.
        for other in self.demanded:
            if not self.lots.get(other):
                return other
        return None
