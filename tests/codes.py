"""Part 7, said once more for the tests, and code made at random."""

import random

PLACE_WORDS = ("top", "left", "right", "up")
TRUTH_WORDS = ("yes", "no", "has", "empty", "same", "not")


def is_number(thing):
    return type(thing) is int and thing >= 0


def is_row_by_words(thing):
    """[7.1]: whether any value is a row."""
    if type(thing) is not tuple or len(thing) == 0 or type(thing[0]) is not str:
        return False
    word, rest = thing[0], thing[1:]
    if word in ("top", "yes", "no", "skip", "give"):
        return len(rest) == 1 and is_number(rest[0])
    if word in ("move", "left", "right", "up", "empty", "not", "unless"):
        return len(rest) == 2 and all(is_number(item) for item in rest)
    if word == "same":
        return len(rest) == 3 and all(is_number(item) for item in rest)
    if word == "has":
        if len(rest) != 3 or not is_number(rest[0]) or not is_number(rest[1]) or type(rest[2]) is not str:
            return False
        return 1 <= len(rest[2]) <= 8 and all("a" <= sign <= "z" for sign in rest[2])
    if word == "call":
        if len(rest) != 3 or not is_number(rest[0]) or not is_number(rest[1]) or type(rest[2]) is not tuple:
            return False
        return all(is_number(item) for item in rest[2])
    return False


def is_code_by_words(thing):
    """[7.1]: whether any value is code."""
    if type(thing) is not tuple:
        return False
    for item in thing:
        if type(item) is not tuple or len(item) != 4 or item[0] not in ("place", "truth"):
            return False
        if not is_number(item[1]) or not is_number(item[2]) or item[2] < item[1]:
            return False
        if type(item[3]) is not tuple or not all(is_row_by_words(row) for row in item[3]):
            return False
    return True


def reads(row):
    if row[0] in ("top", "yes", "no", "skip"):
        return ()
    if row[0] == "call":
        return row[3]
    if row[0] in ("give", "unless"):
        return row[1:2]
    return row[2:4] if row[0] == "same" else row[2:3]


def sets(row):
    return None if row[0] in ("skip", "unless", "give") else row[1]


def next_rows(row, number):
    """Where a row goes on, as far as it is allowed."""
    if row[0] == "give":
        return []
    found = [] if row[0] == "skip" else [number + 1]
    if row[0] in ("skip", "unless") and row[-1] > number:
        found.append(row[-1])
    return found


class Loader:
    """[7.2]: the kinds before each row of a function, each asked for by itself."""

    def __init__(self, code, function):
        self.code = code
        self.kind, self.many, self.registers, self.rows = function
        self.found = {}
        self.ways = {number: [] for number in range(len(self.rows))}
        for number, row in enumerate(self.rows):
            for other in next_rows(row, number):
                if other in self.ways and number not in self.ways[other]:
                    self.ways[other].append(number)

    def before(self, number):
        if number not in self.found:
            if number == 0:
                self.found[0] = ("place",) * self.many + (None,) * (self.registers - self.many)
            else:
                afters = [self.after(other) for other in self.ways[number] if self.before(other) is not None]
                self.found[number] = tuple(self.met(kinds) for kinds in zip(*afters)) if afters else None
        return self.found[number]

    @staticmethod
    def met(kinds):
        return kinds[0] if len(set(kinds)) == 1 else None

    def after(self, number):
        row, kinds = self.rows[number], list(self.before(number))
        if sets(row) is not None:
            if row[0] == "move":
                kind = kinds[row[2]]
            elif row[0] == "call":
                kind = self.code[row[2]][0]
            else:
                kind = "place" if row[0] in PLACE_WORDS else "truth"
            kinds[row[1]] = kind
        return tuple(kinds)

    def reason(self, number):
        """The reason for which a row is faulty, if none before it is."""
        row = self.rows[number]
        registers = reads(row) + (() if sets(row) is None else (sets(row),))
        if any(other >= self.registers for other in registers) or row[0] == "call" and row[2] >= len(self.code):
            return "number"
        if row[0] in ("skip", "unless") and not number < row[-1] < len(self.rows):
            return "number"
        kinds = self.before(number)
        if kinds is None:
            return None
        if row[0] not in ("skip", "give") and number == len(self.rows) - 1:
            return "end"
        if any(kinds[other] is None for other in reads(row)):
            return "unset"
        wanted = {"not": "truth", "unless": "truth", "give": self.kind}.get(row[0], "place")
        if row[0] != "move" and any(kinds[other] != wanted for other in reads(row)):
            return "kind"
        if row[0] == "call" and len(row[3]) != self.code[row[2]][1]:
            return "many"
        return None


def judged_by_words(code):
    """[7.3]: the certificate for code."""
    found = []
    for f, function in enumerate(code):
        loader = Loader(code, function)
        if not function[3]:
            return ("refused", f, 0, "number")
        for number in range(len(function[3])):
            reason = loader.reason(number)
            if reason:
                return ("refused", f, number, reason)
        found.append(tuple(loader.before(number) for number in range(len(function[3]))))
    return ("accepted", tuple(found))


class CodeMaker:
    """Makes accepted code at random: rows that are not reached, jumps over one another, registers of both kinds.

    The register behind those of the names always holds something of the function's kind.
    """

    def __init__(self, seed, tags=("a", "b")):
        self.source = random.Random(seed)
        self.tags = tags
        self.heads = []

    def code(self, functions, most_names, most_rows):
        source = self.source
        self.heads = [(source.choice(("place", "truth")), source.randrange(most_names + 1)) for _ in range(functions)]
        made = []
        for kind, many in self.heads:
            first = ("top" if kind == "place" else "yes", many)
            rows = (first,) + (None,) * source.randrange(1, most_rows + 1)
            made.append((kind, many, many + 2 + source.randrange(3), rows))
        return tuple(self.filled(function) for function in made)

    def filled(self, function):
        kind, many, registers, rows = function
        rows = list(rows)
        shape = tuple((head[0], head[1], head[1], ()) for head in self.heads)
        for number in range(1, len(rows)):
            # Rows behind this one are not asked for what stands before it.
            known = tuple(rows[:number]) + (("give", many),) * (len(rows) - number)
            kinds = Loader(shape, (kind, many, registers, known)).before(number)
            rows[number] = self.row(number, kinds or ("place", "truth") * registers, function)
        return (kind, many, registers, tuple(rows))

    def row(self, number, kinds, function):
        source = self.source
        kind, many, registers, rows = function
        if number == len(rows) - 1:
            return ("give", many)
        places = [at for at in range(registers) if kinds[at] == "place"]
        truths = [at for at in range(registers) if kinds[at] == "truth"]
        heads = [f for f, head in enumerate(self.heads) if places or head[1] == 0]
        words = ["top", "yes", "no", "move", "move", "skip", "give"]
        words += ["left", "right", "up", "has", "empty", "same", "empty"] * (2 if places else 0)
        words += ["not", "unless", "unless", "unless"] * (2 if truths else 0)
        words += ["call"] * (6 if heads else 0)
        word = source.choice(words)
        if word == "give":
            return ("give", source.choice([at for at in range(registers) if kinds[at] == kind]))
        if word == "skip":
            return ("skip", source.randrange(number + 1, len(rows)))
        if word == "unless":
            return ("unless", source.choice(truths), source.randrange(number + 1, len(rows)))
        if word == "move":
            s = source.choice(places + truths)
            return ("move", self.target(kinds[s], function), s)
        if word == "call":
            f = source.choice(heads)
            return ("call", self.target(self.heads[f][0], function), f, tuple(source.choice(places) for _ in range(self.heads[f][1])))
        d = self.target("place" if word in PLACE_WORDS else "truth", function)
        if word in ("top", "yes", "no"):
            return (word, d)
        s = source.choice(truths if word == "not" else places)
        if word == "same":
            return (word, d, s, source.choice(places))
        return (word, d, s) + ((source.choice(self.tags),) if word == "has" else ())

    def target(self, kind, function):
        """A register that may be set to something of this kind."""
        found = [at for at in range(function[2]) if at != function[1] or kind == function[0]]
        return self.source.choice(found)


def changed_code(source, code):
    """Code, mostly still of the form of code, that comes of some changes of numbers, words and rows."""
    code = [list(function[:3]) + [list(function[3])] for function in code]
    for _ in range(source.choice((1, 1, 2, 3))):
        function = source.choice(code)
        rows = function[3]
        way = source.randrange(8)
        if way == 0:
            function[0] = source.choice(("place", "truth"))
        elif way == 1:
            function[1] = source.randrange(function[2] + 1)
        elif way == 2:
            function[2] = max(function[1], function[2] + source.choice((-1, -1, 1)))
        elif way == 3 and rows:
            del rows[source.randrange(len(rows))]
        elif way == 4:
            rows.insert(source.randrange(len(rows) + 1), random_row(source))
        elif way == 5 and len(rows) > 1:
            del rows[source.randrange(len(rows)):]
        elif rows:
            rows[source.randrange(len(rows))] = random_row(source)
    return tuple(tuple(function[:3]) + (tuple(function[3]),) for function in code)


def random_row(source):
    """A row of any shape with small numbers."""
    numbers = [source.choice((0, 0, 1, 1, 2, 3, 4, 9)) for _ in range(3)]
    word = source.choice(("top", "move", "left", "right", "up", "yes", "no", "has", "empty", "same", "not", "skip", "unless", "call", "give"))
    if word in ("top", "yes", "no", "skip", "give"):
        return (word, numbers[0])
    if word == "same":
        return (word, *numbers)
    if word == "has":
        return (word, *numbers[:2], "a")
    if word == "call":
        return (word, numbers[0], numbers[1] // 2, tuple(numbers[2:] * source.randrange(3)))
    return (word, *numbers[:2])
