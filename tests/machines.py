"""Parts 8 and 9, said once more for the tests: both machines, certificates of runs, and the compiler."""

from tests.codes import is_number
from tests.programs import moved, tree_parts


def value_set(row, registers, parts):
    """[7.1]: what a row sets, but for "call"."""
    word = row[0]
    if word in ("top", "yes", "no"):
        return {"top": "", "yes": True, "no": False}[word]
    value = registers[row[2]]
    if word == "move":
        return value
    if word == "not":
        return not value
    if word == "same":
        return value == registers[row[3]]
    if word == "empty":
        return parts[value] is None
    if word == "has":
        return parts[value] is not None and parts[value][0] == row[3]
    return moved(parts, value, word)


def next_row(row, number, registers):
    """The number of the next row."""
    if row[0] == "skip":
        return row[1]
    if row[0] == "unless" and registers[row[1]] is False:
        return row[2]
    return number + 1


def plain_by_words(code, tree, f, places, fuel):
    """[8.2], row by row."""
    parts = tree_parts(tree)
    frames = [[f, 0, dict(enumerate(places))]]
    steps = 0
    while True:
        f, number, registers = frames[-1]
        row = code[f][3][number]
        if steps == fuel:
            return ("out",)
        steps += 1
        if row[0] == "give":
            frames.pop()
            outcome = registers[row[1]]
            if not frames:
                return ("given", outcome, steps)
            caller = frames[-1]
            caller[2][code[caller[0]][3][caller[1]][1]] = outcome
            caller[1] += 1
        elif row[0] == "call":
            frames.append([row[2], 0, {at: registers[other] for at, other in enumerate(row[3])}])
        else:
            if row[0] not in ("skip", "unless"):
                registers[row[1]] = value_set(row, registers, parts)
            frames[-1][1] = next_row(row, number, registers)


def run_by_words(code, parts, call, known):
    """One run of the rows of a call: ("given", outcome, rows) or ("stops", call, rows)."""
    rows = code[call[0]][3]
    registers = dict(enumerate(call[1]))
    number = many = 0
    while True:
        row = rows[number]
        many += 1
        if row[0] == "give":
            return ("given", registers[row[1]], many)
        if row[0] == "call":
            asked = (row[2], tuple(registers[other] for other in row[3]))
            if asked not in known:
                return ("stops", asked, many)
            registers[row[1]] = known[asked]
        elif row[0] not in ("skip", "unless"):
            registers[row[1]] = value_set(row, registers, parts)
        number = next_row(row, number, registers)


class TableByWords:
    """[8.3]; runs has each run in order."""

    def __init__(self, code, tree, f, places):
        parts = tree_parts(tree)
        asked = (f, places)
        self.table, self.waits, self.met, self.runs, self.rows = {}, [], [asked], [], 0
        queue = [asked]
        while asked not in self.table and queue:
            call = queue.pop(0)
            self.runs.append(call)
            word, found, many = run_by_words(code, parts, call, self.table)
            self.rows += many
            if word == "given":
                self.table[call] = found
                queue += [other for other, waited in self.waits if waited == call]
                self.waits = [pair for pair in self.waits if pair[1] != call]
            else:
                self.waits.append((call, found))
                if found not in self.met:
                    self.met.append(found)
                    queue.append(found)
        if asked in self.table:
            self.result = ("given", self.table[asked], self.rows)
        else:
            ring, waits = [asked], dict(self.waits)
            while waits[ring[-1]] not in ring:
                ring.append(waits[ring[-1]])
            self.result = ("endless", tuple(ring), self.rows)


class RunPapers:
    """[8.5]: which values are certificates, for accepted code and a tree."""

    def __init__(self, code, tree):
        self.code = code
        self.parts = tree_parts(tree)

    def is_call(self, thing):
        if not isinstance(thing, tuple) or len(thing) != 2 or not is_number(thing[0]) or thing[0] >= len(self.code):
            return False
        if not isinstance(thing[1], tuple) or len(thing[1]) != self.code[thing[0]][1]:
            return False
        return all(isinstance(place, str) and place in self.parts for place in thing[1])

    def is_outcome(self, thing):
        return thing is True or thing is False or isinstance(thing, str) and thing in self.parts

    def are_entries(self, thing):
        if not isinstance(thing, tuple):
            return False
        for item in thing:
            if not isinstance(item, tuple) or len(item) != 3 or not self.is_call(item[0]):
                return False
            if not self.is_outcome(item[1]) or not is_number(item[2]):
                return False
        if len({item[0] for item in thing}) < len(thing):
            return False
        for call, outcome, rank in thing:
            known = {other: value for other, value, lesser in thing if lesser < rank}
            if run_by_words(self.code, self.parts, call, known)[:2] != ("given", outcome):
                return False
        return True

    def is_paper(self, f, places, thing):
        call = (f, places)
        if not isinstance(thing, tuple) or len(thing) != 3 or thing[0] not in ("given", "endless"):
            return False
        if thing[0] == "given":
            if not self.is_outcome(thing[1]) or not self.are_entries(thing[2]):
                return False
            return any(entry[:2] == (call, thing[1]) for entry in thing[2])
        _, entries, calls = thing
        if not self.are_entries(entries) or not isinstance(calls, tuple) or not calls:
            return False
        if not all(self.is_call(other) for other in calls) or calls[0] != call or len(set(calls)) < len(calls):
            return False
        known = {entry[0]: entry[1] for entry in entries}
        if any(other in known for other in calls):
            return False
        found = [run_by_words(self.code, self.parts, other, known) for other in calls]
        if any(word == "given" for word, _, _ in found):
            return False
        stops = [stop for _, stop, _ in found]
        return all(stop == other for stop, other in zip(stops, calls[1:])) and stops[-1] in calls


def made_by_words(program):
    """[9.1] and [9.2]: for each function the rows, each with the path of its term."""
    numbers = {function[1]: number for number, function in enumerate(program)}
    found = []
    for _, _, _, names, body in program:
        rows = rows_by_words(body, len(names), 0, (), names, numbers)
        found.append(rows + [(("give", len(names)), ())])
    return found


def rows_by_words(term, d, start, path, names, numbers):
    """The rows of a term, the first of which has the number start."""

    def part(at, register, first):
        return rows_by_words(term[at], register, first, path + (at,), names, numbers)

    word = term[0]
    if word == "name":
        return [(("move", d, names.index(term[1])), path)]
    if word in ("top", "yes", "no"):
        return [((word, d), path)]
    if word in ("left", "right", "up", "empty", "not"):
        return part(1, d, start) + [((word, d, d), path)]
    if word == "has":
        return part(1, d, start) + [((word, d, d, term[2]), path)]
    if word == "call":
        rows = []
        for at, other in enumerate(term[2]):
            rows += rows_by_words(other, d + at, start + len(rows), path + (2, at), names, numbers)
        return rows + [(("call", d, numbers[term[1]], tuple(range(d, d + len(term[2])))), path)]
    if word == "same":
        first = part(1, d, start)
        return first + part(2, d + 1, start + len(first)) + [(("same", d, d, d + 1), path)]
    test = part(1, d, start)
    begin = start + len(test)
    if word == "and":
        rest = part(2, d, begin + 1)
        return test + [(("unless", d, begin + 1 + len(rest)), path)] + rest
    if word == "or":
        rest = part(2, d, begin + 2)
        return test + [(("unless", d, begin + 2), path), (("skip", begin + 2 + len(rest)), path)] + rest
    then = part(2, d, begin + 1)
    other = part(3, d, begin + 2 + len(then))
    jump = (("skip", begin + 2 + len(then) + len(other)), path)
    return test + [(("unless", d, begin + 2 + len(then)), path)] + then + [jump] + other


def compiled_by_words(program):
    """[9.1]: the code."""
    code = []
    for (_, _, kind, names, _), rows in zip(program, made_by_words(program)):
        numbers = [len(names) - 1]
        for row, _ in rows:
            if row[0] in ("skip", "unless", "give"):
                numbers += [row[1]] if row[0] != "skip" else []
            elif row[0] == "call":
                numbers += [row[1], *row[3]]
            else:
                numbers += [item for item in row[1:] if isinstance(item, int)]
        code.append((kind, len(names), max(numbers) + 1, tuple(row for row, _ in rows)))
    return tuple(code)


def all_code_calls(code, tree):
    """Every code call."""
    found = []
    for f, function in enumerate(code):
        rows = [()]
        for _ in range(function[1]):
            rows = [row + (place,) for row in rows for place in sorted(tree_parts(tree))]
        found += [(f, row) for row in rows]
    return found
