"""Part 5: whether entries that were passed are those of a certificate."""

from eyesonly.integers import is_natural
from eyesonly.kinds import first_functions
from eyesonly.lots import Sight, ascending
from eyesonly.meaning import is_call_of
from eyesonly.trees import standing


class PassedSight(Sight):
    """A sight with lots that were passed.

    A body may name far more calls than have such a lot. Then only those that have one are looked at, and beyond is
    set: some demanded call has none.
    """

    def __init__(self, functions, ground, lots):
        super().__init__(functions, ground, lots)
        self.beyond = False

    def calls_of(self, name, choices):
        """Each call of a function that has at each position one of the places given for it."""
        many = 1
        for values in choices:
            many = many * len(values)
        if many <= len(self.lots):
            return super().calls_of(name, choices)
        self.beyond = True
        return [call for call in self.lots if call[0] == name and is_row_of(choices, call[1])]


def is_row_of(choices, places):
    """Whether each place is one of those given for its position."""
    return all(place in values for place, values in zip(places, choices))


class Setting:
    """A program with a tree: what is a call, a value, an entry there, and what follows from what."""

    def __init__(self, program, tree):
        self.program = program
        self.tree = tree
        self.functions = first_functions(program)
        self.ground = standing(tree)

    def is_call(self, thing):
        """Whether any value is a call."""
        return is_call_of(self.program, self.tree, thing)

    def is_value(self, call, thing):
        """Whether any value is a value of the kind of the function of a call."""
        if self.functions[call[0]][2] == "truth":
            return isinstance(thing, bool)
        return isinstance(thing, str) and thing in self.ground

    def is_lot(self, call, thing):
        """Whether any value can be the lot of a call."""
        if not isinstance(thing, tuple) or not all(self.is_value(call, value) for value in thing):
            return False
        return thing == ascending(thing)

    def is_triple(self, thing):
        """Whether any value is a triple of a call, a value and a rank."""
        if not isinstance(thing, tuple) or len(thing) != 3 or not self.is_call(thing[0]):
            return False
        return self.is_value(thing[0], thing[1]) and is_natural(thing[2])

    def are_triples(self, thing):
        """Whether any value is a tuple of triples of a call, a value and a rank."""
        return isinstance(thing, tuple) and all(self.is_triple(item) for item in thing)

    def is_pair(self, thing):
        """Whether any value is a pair of a call and what can be its lot."""
        if not isinstance(thing, tuple) or len(thing) != 2:
            return False
        return self.is_call(thing[0]) and self.is_lot(thing[0], thing[1])

    def are_lots(self, thing):
        """Whether any value is a tuple of pairs of a call and what can be its lot, with no call twice."""
        if not isinstance(thing, tuple) or not all(self.is_pair(item) for item in thing):
            return False
        return len(set([call for call, _ in thing])) == len(thing)

    def follow(self, triples):
        """Whether the value of each triple follows from those with lesser ranks."""
        lots = {}
        sight = PassedSight(self.functions, self.ground, lots)
        fresh = []
        below = 0
        for call, value, rank in sorted(triples, key=lambda triple: triple[2]):
            if rank > below:
                add_to(lots, fresh)
                fresh = []
                below = rank
            # What followed from fewer values follows from more.
            if value not in lots.get(call, ()):
                if value not in sight.values_of_body(call):
                    return False
                fresh.append((call, value))
        return True

    def are_closed(self, pairs):
        """Whether the values of each body are in the lot of its call, and only calls with lots are demanded."""
        lots = {call: lot for call, lot in pairs}
        sight = PassedSight(self.functions, self.ground, lots)
        for call in lots:
            values = sight.values_of_body(call)
            if sight.beyond or not all(other in lots for other in sight.demanded):
                return False
            if not all(value in lots[call] for value in values):
                return False
        return True

    def are_stuck(self, calls, triples):
        """Whether each of the calls is stuck at the next one, and the last one at some one of them."""
        sight = Sight(self.functions, self.ground, {call: (value,) for call, value, _ in triples})
        stops = [sight.stuck_at(call) for call in calls]
        return stops[:-1] == list(calls[1:]) and stops[-1] in calls


def add_to(lots, pairs):
    """Add values to the lots of their calls."""
    for call, value in pairs:
        lots[call] = ascending([*lots.get(call, ()), value])
