"""Part 8: the rows of one code function, run for one call."""

from eyesonly.meaning import CONSTANTS, worked_out


class Frame:
    """A run of the rows of a function. It halts at each row that is a "call", and at the "give" that ends it.

    held gives what the registers hold.
    """

    def __init__(self, code, ground, call):
        self.rows = code[call[0]][3]
        self.ground = ground
        self.held = dict(enumerate(call[1]))
        self.at = 0

    def go_on(self):
        """Execute rows up to and with the next one at which this halts; how many they are."""
        executed = 1
        while self.rows[self.at][0] not in ("call", "give"):
            self.execute(self.rows[self.at])
            executed += 1
        return executed

    def execute(self, row):
        """Execute a row at which this does not halt."""
        word = row[0]
        self.at += 1
        if word == "skip":
            self.at = row[1]
        elif word == "unless":
            if not self.held[row[1]]:
                self.at = row[2]
        elif word in CONSTANTS:
            self.held[row[1]] = CONSTANTS[word]
        else:
            self.held[row[1]] = self.result(row, self.held[row[2]])

    def result(self, row, value):
        """What a row sets, from what the first register that it reads holds."""
        if row[0] == "move":
            return value
        if row[0] == "same":
            return value == self.held[row[3]]
        return worked_out(row, value, self.ground.get(value))

    def asked(self):
        """The call of the row at which this halts, None if it is a "give"."""
        row = self.rows[self.at]
        if row[0] == "give":
            return None
        return (row[2], tuple([self.held[number] for number in row[3]]))

    def answer(self, outcome):
        """Let the call at which this halts have an outcome."""
        self.held[self.rows[self.at][1]] = outcome
        self.at += 1

    def outcome(self):
        """What is given at the "give" at which this halts."""
        return self.held[self.rows[self.at][1]]


def run_with(known, code, ground, call):
    """Run a call with the outcomes that are known for other calls, given by a dict.

    Returns the call at which the run stops, since its outcome is not known, and None; or None and the outcome; and how
    many rows were executed.
    """
    frame = Frame(code, ground, call)
    executed = frame.go_on()
    asked = frame.asked()
    while asked in known:
        frame.answer(known[asked])
        executed += frame.go_on()
        asked = frame.asked()
    if asked is None:
        return (None, frame.outcome(), executed)
    return (asked, None, executed)
