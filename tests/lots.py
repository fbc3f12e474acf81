"""Points [5.1] to [5.5], said once more for the tests: values with lots, the least lots, and what certificates are."""

from tests.programs import all_calls, moved, tree_parts


class Values:
    """[5.1]: the values of bodies with given lots; a call without a lot has no values."""

    def __init__(self, program, tree, lots):
        self.functions = {function[1]: function for function in program}
        self.parts = tree_parts(tree)
        self.demanded = set()
        self.lots = lots

    def body(self, call):
        _, _, _, names, body = self.functions[call[0]]
        self.demanded = set()
        return self.values(body, dict(zip(names, call[1])))

    def values(self, term, names):
        word = term[0]
        if word == "name":
            return {names[term[1]]}
        if word in ("top", "yes", "no"):
            return {{"top": "", "yes": True, "no": False}[word]}
        if word == "call":
            rows = [()]
            for part in term[2]:
                found = self.values(part, names)
                rows = [row + (value,) for row in rows for value in found]
            self.demanded.update((term[1], row) for row in rows)
            return set().union(*[self.lots.get((term[1], row), ()) for row in rows])
        first = self.values(term[1], names)
        if word == "either":
            return first | self.values(term[2], names)
        if word == "same":
            second = self.values(term[2], names)
            return {one == other for one in first for other in second}
        if word == "and":
            return (first & {False}) | (self.values(term[2], names) if True in first else set())
        if word == "or":
            return (first & {True}) | (self.values(term[2], names) if False in first else set())
        if word == "if":
            found = self.values(term[2], names) if True in first else set()
            return found | (self.values(term[3], names) if False in first else set())
        return {self.simple(term, value) for value in first}

    def simple(self, term, value):
        if term[0] == "not":
            return not value
        part = self.parts[value]
        if term[0] == "empty":
            return part is None
        if term[0] == "has":
            return part is not None and part[0] == term[2]
        return moved(self.parts, value, term[0])


class Lots(Values):
    """[5.2] and [5.3]: the least lots, for all calls at once."""

    def __init__(self, program, tree):
        super().__init__(program, tree, {call: set() for call in all_calls(program, tree)})
        grown = True
        while grown:
            grown = False
            for call in self.lots:
                values = self.body(call)
                grown = grown or values != self.lots[call]
                self.lots[call] = values

    def reached(self, call):
        found = {call}
        waiting = [call]
        while waiting:
            self.body(waiting.pop())
            fresh = self.demanded - found
            found |= fresh
            waiting.extend(fresh)
        return tuple(sorted(found))


class Stuck(Exception):
    """An evaluation comes to a call without a value."""


class Papers:
    """[5.4] and [5.5]: which values are certificates, for a program and a tree."""

    def __init__(self, program, tree):
        self.program = program
        self.tree = tree
        self.functions = {function[1]: function for function in program}
        self.calls = set(all_calls(program, tree))
        self.places = set(tree_parts(tree))

    def is_call(self, thing):
        if not isinstance(thing, tuple) or len(thing) != 2 or not isinstance(thing[0], str):
            return False
        if not isinstance(thing[1], tuple) or not all(isinstance(place, str) for place in thing[1]):
            return False
        return thing in self.calls

    def is_value(self, call, thing):
        if self.functions[call[0]][2] == "truth":
            return thing is True or thing is False
        return isinstance(thing, str) and thing in self.places

    def is_triple(self, thing):
        if not isinstance(thing, tuple) or len(thing) != 3 or not self.is_call(thing[0]):
            return False
        return self.is_value(thing[0], thing[1]) and type(thing[2]) is int and thing[2] >= 0

    def are_entries(self, thing):
        if not isinstance(thing, tuple) or not all(self.is_triple(item) for item in thing):
            return False
        for call, value, rank in thing:
            lots = {}
            for other, known, lesser in thing:
                if lesser < rank:
                    lots.setdefault(other, set()).add(known)
            if value not in Values(self.program, self.tree, lots).body(call):
                return False
        return True

    def are_closed(self, thing):
        if not isinstance(thing, tuple):
            return False
        lots = {}
        for item in thing:
            if not isinstance(item, tuple) or len(item) != 2 or not self.is_call(item[0]) or item[0] in lots:
                return False
            call, lot = item
            if not isinstance(lot, tuple) or not all(self.is_value(call, value) for value in lot):
                return False
            if list(lot) != sorted(set(lot)):
                return False
            lots[call] = set(lot)
        values = Values(self.program, self.tree, lots)
        for call in lots:
            if not values.body(call) <= lots[call] or not values.demanded <= set(lots):
                return False
        return True

    def is_outcome_paper(self, call, value, thing):
        """[5.4]"""
        if not isinstance(thing, tuple) or len(thing) != 2:
            return False
        if thing[0] == "table":
            return self.are_entries(thing[1]) and any(entry[:2] == (call, value) for entry in thing[1])
        if thing[0] == "closed":
            return self.are_closed(thing[1]) and any(item[0] == call and value not in item[1] for item in thing[1])
        return False

    def is_end_paper(self, call, thing):
        """[5.5]"""
        if not isinstance(thing, tuple) or len(thing) != 3 or thing[0] not in ("given", "endless"):
            return False
        entries = thing[2] if thing[0] == "given" else thing[1]
        if not self.are_entries(entries) or len({entry[0] for entry in entries}) < len(entries):
            return False
        if thing[0] == "given":
            return self.is_value(call, thing[1]) and any(entry[:2] == (call, thing[1]) for entry in entries)
        calls = thing[2]
        if not isinstance(calls, tuple) or not calls or not all(self.is_call(item) for item in calls):
            return False
        if calls[0] != call or len(set(calls)) < len(calls):
            return False
        known = {entry[0]: entry[1] for entry in entries}
        stops = [self.stop(item, known) for item in calls]
        return all(stop == other for stop, other in zip(stops, calls[1:])) and stops[-1] in calls

    def stop(self, call, known):
        """The call at which a body is stuck, None if it is not."""
        _, _, _, names, body = self.functions[call[0]]
        try:
            self.evaluate(body, dict(zip(names, call[1])), known)
        except Stuck as stuck:
            return stuck.args[0]
        return None

    def evaluate(self, term, names, known):
        word = term[0]
        if word == "name":
            return names[term[1]]
        if word in ("top", "yes", "no"):
            return {"top": "", "yes": True, "no": False}[word]
        if word == "call":
            call = (term[1], tuple([self.evaluate(part, names, known) for part in term[2]]))
            if call not in known:
                raise Stuck(call)
            return known[call]
        first = self.evaluate(term[1], names, known)
        if word == "same":
            return first == self.evaluate(term[2], names, known)
        if word == "and":
            return first and self.evaluate(term[2], names, known)
        if word == "or":
            return first or self.evaluate(term[2], names, known)
        if word == "if":
            return self.evaluate(term[2] if first else term[3], names, known)
        return Values(self.program, self.tree, {}).simple(term, first)
