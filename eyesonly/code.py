"""Part 7: code, and which code is accepted."""

from eyesonly.errors import BadCode, BadRow, BadShape
from eyesonly.integers import is_natural, is_plain_int
from eyesonly.rows import is_row, items_at, register_set, registers_read
from eyesonly.terms import KINDS

# The kinds of what rows set and of what they read; those of "move", "call" and "give" depend on more.
KINDS_SET = {
    "top": "place", "left": "place", "right": "place", "up": "place",
    "yes": "truth", "no": "truth", "has": "truth", "empty": "truth", "same": "truth", "not": "truth",
}
KINDS_READ = {
    "left": "place", "right": "place", "up": "place", "has": "place", "empty": "place", "same": "place",
    "call": "place", "not": "truth", "unless": "truth",
}


def is_code_function(thing):
    """Whether any value is a code function."""
    if not isinstance(thing, tuple) or len(thing) != 4 or thing[0] not in KINDS:
        return False
    if not is_natural(thing[1]) or not is_natural(thing[2]) or thing[2] < thing[1]:
        return False
    return isinstance(thing[3], tuple) and all(is_row(item) for item in thing[3])


def is_code(thing):
    """Whether any value is code."""
    return isinstance(thing, tuple) and all(is_code_function(item) for item in thing)


class Flow:
    """The kinds of the registers before each row of a code function, found up to the first faulty row.

    Before each row, before has None if it is not reached, and otherwise a dict: in it are the registers that may have
    been set, with their kinds, None for none. All others have the kinds of the beginning. So nothing is as large as
    the number of registers.
    """

    def __init__(self, code, function):
        self.code = code
        self.kind = function[0]
        self.many = function[1]
        self.registers = function[2]
        self.rows = function[3]
        self.before = [None] * len(self.rows)
        self.fault = None
        self.go_through()

    def go_through(self):
        """Go through the rows; all that go on at a row stand before it."""
        if not self.rows:
            self.fault = (0, "number")
            return
        self.before[0] = {}
        for number, row in enumerate(self.rows):
            reason = self.reason(number, row)
            if reason:
                self.fault = (number, reason)
                return
            if self.before[number] is not None:
                after = self.after(row, self.before[number])
                for other in goes_on_at(row, number):
                    self.before[other] = self.merged(self.before[other], after)

    def kind_of(self, kinds, number):
        """The kind of a register, None if it has none."""
        return kinds.get(number, "place" if number < self.many else None)

    def reason(self, number, row):
        """The first reason for which a row is faulty, None if there is none."""
        if self.has_wrong_number(number, row):
            return "number"
        kinds = self.before[number]
        if kinds is None:
            return None
        if number + 1 == len(self.rows) and number + 1 in goes_on_at(row, number):
            return "end"
        found = [self.kind_of(kinds, other) for other in registers_read(row)]
        if None in found:
            return "unset"
        wanted = self.kind if row[0] == "give" else KINDS_READ.get(row[0])
        if wanted and not all(kind == wanted for kind in found):
            return "kind"
        if row[0] == "call" and len(row[3]) != self.code[row[2]][1]:
            return "many"
        return None

    def has_wrong_number(self, number, row):
        """Whether some number in a row is too great, or too small for that of a row."""
        registers = [*items_at(row, "d"), *registers_read(row)]
        if not all(other < self.registers for other in registers):
            return True
        if not all(other < len(self.code) for other in items_at(row, "f")):
            return True
        return not all(number < other < len(self.rows) for other in items_at(row, "k"))

    def after(self, row, kinds):
        """The kinds after a row, from those before it."""
        number = register_set(row)
        if number is None:
            return kinds
        if row[0] == "move":
            return {**kinds, number: self.kind_of(kinds, row[2])}
        kind = self.code[row[2]][0] if row[0] == "call" else KINDS_SET[row[0]]
        return {**kinds, number: kind}

    def merged(self, kinds, others):
        """The kinds before a row at which rows with these kinds go on; kinds is None if there are no others yet."""
        if kinds is None:
            return others
        found = {}
        for number in [*kinds, *others]:
            kind = self.kind_of(kinds, number)
            found[number] = kind if kind == self.kind_of(others, number) else None
        return found

    def written(self, kinds):
        """The kinds of all registers, as in a certificate."""
        if kinds is None:
            return None
        return tuple([self.kind_of(kinds, number) for number in range(self.registers)])

    def is_written(self, kinds, thing):
        """Whether any value is the kinds of all registers, as in a certificate."""
        if kinds is None:
            return thing is None
        if not isinstance(thing, tuple) or len(thing) != self.registers:
            return False
        return all(self.kind_of(kinds, number) == item for number, item in enumerate(thing))

    def are_written(self, thing):
        """Whether any value is the item of this function in a certificate."""
        if not isinstance(thing, tuple) or len(thing) != len(self.before):
            return False
        return all(self.is_written(kinds, item) for kinds, item in zip(self.before, thing))


def goes_on_at(row, number):
    """The numbers of the rows at which a row with this number goes on."""
    found = items_at(row, "k")
    if row[0] not in ("skip", "give"):
        found.append(number + 1)
    return found


def flows_of(code):
    """The flows of the functions of code, up to the first one with a faulty row."""
    flows = []
    for function in code:
        flows.append(Flow(code, function))
        if flows[-1].fault:
            break
    return flows


def refusal_of(flows):
    """The certificate that code with these flows is refused, None if it is accepted."""
    if not flows or not flows[-1].fault:
        return None
    number, reason = flows[-1].fault
    return ("refused", len(flows) - 1, number, reason)


def is_accepted(thing):
    """Whether any value is accepted code."""
    return is_code(thing) and refusal_of(flows_of(thing)) is None


def check_code(code):
    """Raise BadCode if any value is not accepted code."""
    if not is_accepted(code):
        raise BadCode(code)


def judge_code(shape):
    """The certificate for code."""
    if not is_code(shape):
        raise BadShape(shape)
    flows = flows_of(shape)
    refusal = refusal_of(flows)
    if refusal:
        return refusal
    return ("accepted", tuple([tuple([flow.written(kinds) for kinds in flow.before]) for flow in flows]))


def code_holds(shape, thing):
    """Whether any value is the certificate for code."""
    if not is_code(shape):
        raise BadShape(shape)
    flows = flows_of(shape)
    refusal = refusal_of(flows)
    if not isinstance(thing, tuple):
        return False
    if refusal:
        # True and False equal numbers, but are none.
        return thing == refusal and is_plain_int(thing[1]) and is_plain_int(thing[2])
    if len(thing) != 2 or thing[0] != "accepted" or not isinstance(thing[1], tuple) or len(thing[1]) != len(flows):
        return False
    return all(flow.are_written(item) for flow, item in zip(flows, thing[1]))


def read_by(row):
    """The tuple of the registers that a row reads."""
    if not is_row(row):
        raise BadRow(row)
    return registers_read(row)


def set_by(row):
    """The register that a row sets, or None."""
    if not is_row(row):
        raise BadRow(row)
    return register_set(row)
