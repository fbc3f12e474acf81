"""Part 5: why a call has a value in its lot."""

from eyesonly.lots import Sight, rows_of
from eyesonly.meaning import CONSTANTS, decided, worked_out


class ProofSight(Sight):
    """A sight that also tells from which values of other calls a value follows."""

    def grounds_of_body(self, call, value):
        """Pairs of calls and values of their lots, from which a value of the body of a call follows."""
        # This sets the places of the names.
        self.values_of_body(call)
        found = []
        waiting = [(self.functions[call[0]][4], value)]
        while waiting:
            term, wanted = waiting.pop()
            parts = self.grounds_of(term, wanted)
            if term[0] == "call":
                found.append(((term[1], tuple([place for _, place in parts])), wanted))
            waiting.extend(parts)
        return found

    def grounds_of(self, term, value):
        """Parts of a term, each with a value from which the value of the term follows; the term has this value."""
        word = term[0]
        if word == "name" or word in CONSTANTS:
            return []
        if word == "call":
            return self.grounds_of_call(term, value)
        if word == "same":
            return self.grounds_of_same(term, value)
        if word == "either":
            part = term[1] if value in self.values_of(term[1]) else term[2]
            return [(part, value)]
        if word in ("and", "or", "if"):
            return self.grounds_decided(term, value)
        fitting = [one for one in self.values_of(term[1]) if worked_out(term, one, self.ground.get(one)) == value]
        return [(term[1], fitting[0])]

    def grounds_of_call(self, term, value):
        """As grounds_of, for a call: its terms with the places of a call that has the value in its lot."""
        choices = [self.values_of(part) for part in term[2]]
        fitting = [places for places in rows_of(choices) if value in self.lots.get((term[1], places), ())]
        return list(zip(term[2], fitting[0]))

    def grounds_of_same(self, term, value):
        """As grounds_of, for a same."""
        others = self.values_of(term[2])
        pairs = [(one, other) for one in self.values_of(term[1]) for other in others if (one == other) == value]
        return list(zip(term[1:], pairs[0]))

    def grounds_decided(self, term, value):
        """As grounds_of, for a term whose first part decides which other one is asked for its values."""
        found = []
        for truth in self.values_of(term[1]):
            at = decided(term[0], truth)
            if at and value in self.values_of(term[at]):
                found.append([(term[1], truth), (term[at], value)])
            elif not at and truth == value:
                found.append([(term[1], truth)])
        return found[0]


def proof_of(table, call, value):
    """The ascending entries, by ranks, from which a value of the lot of a call follows.

    The lots of the table shrink on the way: each value is traced back to those that were there before it.
    """
    sight = ProofSight(table.sight.functions, table.sight.ground, table.lots)
    wanted = {(call, value): True}
    found = []
    for rank in reversed(range(len(table.grown))):
        other, known = table.grown[rank]
        table.lots[other] = tuple([item for item in table.lots[other] if item != known])
        if (other, known) in wanted:
            found.append((other, known, rank))
            for pair in sight.grounds_of_body(other, known):
                wanted[pair] = True
    return tuple(found[::-1])
