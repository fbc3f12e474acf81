"""Part 11: programs made of tape machines."""

from eyesonly.clocked import is_clock, is_tape
from eyesonly.errors import BadMachine, BadNumber
from eyesonly.phrases import all_same, any_of, call_text, function_text
from eyesonly.texts import read

# The last place in the part at x, and the places before and behind x in the order of places, taken as a ring.
GROUND = (
    "fun ending(x): place = if empty(x) then x else ending(right(x))",
    "fun back(x): place = if same(x, top) then ending(top) else beside(x, left(up(x)))",
    "fun beside(x, y): place = if same(x, y) then up(x) else ending(y)",
    "fun forth(x): place = if empty(x) then rise(x) else left(x)",
    "fun rise(x): place = if same(x, top) then top else if same(x, left(up(x))) then right(up(x)) else rise(up(x))",
)


class Scribe:
    """Writes the program for a tape machine with a clock c, each function as a line.

    A place stands for its position, and c places for a number, the one that counts most first. The functions before and
    after give place k of the number before and behind another one. All others are asked about the standing after a
    number of steps, t0, t1 and so on:
    pos: place k of the number of the head's cell. shift: the same after one step more.
    state: whether the machine is in a state.
    sign: whether a cell has a sign. reads: whether the head's cell has it. writes: whether this cell gets it next.
    goes_back and goes_forth: whether the head gets to another cell next.
    """

    def __init__(self, machine, c):
        _, self.tags, self.signs, self.states = machine
        self.c = c
        self.cells = [f"x{k}" for k in range(c)]
        self.times = [f"t{k}" for k in range(c)]
        self.earlier = [call_text(f"before{k}", self.times[k:]) for k in range(c)]
        self.at_first = all_same(self.times, "top")

    def head(self, times):
        """The texts of the places of the number of the head's cell after so many steps."""
        return [call_text(f"pos{k}", times) for k in range(self.c)]

    def lines(self):
        """The lines of all functions."""
        whole = call_text(f"state{len(self.states)}", ["ending(top)"] * self.c)
        lines = [function_text("main", [], "truth", whole), *GROUND]
        for k in range(self.c):
            lines.extend(self.lines_of_number(k))
            lines.extend(self.lines_of_head(k))
        for number in range(len(self.states) + 1):
            lines.append(self.line_of_state(number))
        for sign in range(self.signs):
            lines.extend(self.lines_of_sign(sign))
        return [*lines, self.line_of_way("goes_back", -1, "top"), self.line_of_way("goes_forth", 1, "ending(top)")]

    def lines_of_number(self, k):
        """The lines that find place k of the number before and behind another one."""
        cell = self.cells[k]
        lower = self.cells[k + 1:]
        back = f"back({cell})"
        forth = f"forth({cell})"
        # A place changes only when all places behind it are at one end.
        if lower:
            back = "if " + all_same(lower, "top") + f" then {back} else {cell}"
            forth = "if " + all_same(lower, "ending(top)") + f" then {forth} else {cell}"
        return [
            function_text(f"before{k}", self.cells[k:], "place", back),
            function_text(f"after{k}", self.cells[k:], "place", forth),
        ]

    def lines_of_head(self, k):
        """The lines that find place k of the number of the head's cell, now and after the next step."""
        head = self.head(self.times)
        less = "if " + call_text("goes_back", self.times) + " then " + call_text(f"before{k}", head[k:])
        more = "if " + call_text("goes_forth", self.times) + " then " + call_text(f"after{k}", head[k:])
        pos = f"if {self.at_first} then top else " + call_text(f"shift{k}", self.earlier)
        return [
            function_text(f"pos{k}", self.times, "place", pos),
            function_text(f"shift{k}", self.times, "place", f"{less} else {more} else {head[k]}"),
        ]

    def line_of_way(self, name, move, end):
        """The line that tells whether the head moves so; it does not move beyond this end."""
        moves = self.applied(self.times, 2, move, "no")
        beyond = all_same(self.head(self.times), end)
        return function_text(name, self.times, "truth", f"if {beyond} then no else {moves}")

    def line_of_state(self, number):
        """The line that tells whether the machine is in a state, which may be the end with yes."""
        name = f"state{number}"
        ended = call_text(name, self.earlier) if number == len(self.states) else "no"
        begins = "yes" if number == 0 else "no"
        comes = self.applied(self.earlier, 0, number, ended)
        return function_text(name, self.times, "truth", f"if {self.at_first} then {begins} else {comes}")

    def lines_of_sign(self, sign):
        """The lines that tell where a sign is, and whether it is written."""
        name = f"sign{sign}"
        reads = call_text(f"reads{sign}", self.times)
        was = call_text(name, self.cells + self.earlier)
        wrote = call_text(f"writes{sign}", self.earlier)
        here = " and ".join([f"same({cell}, {place})" for cell, place in zip(self.cells, self.head(self.earlier))])
        has = f"if {self.at_first} then ({self.given(sign)}) else if {here} then {wrote} else {was}"
        return [
            function_text(name, self.cells + self.times, "truth", has),
            function_text(f"reads{sign}", self.times, "truth", call_text(name, self.head(self.times) + self.times)),
            function_text(f"writes{sign}", self.times, "truth", self.applied(self.times, 1, sign, reads)),
        ]

    def applied(self, times, at, item, ended):
        """The text of whether the rule to be applied after so many steps has an item at a position.

        If the machine has ended, so that there is no such rule, the text ended tells it.
        """
        text = ended
        for number, state in reversed(list(enumerate(self.states))):
            signs = [sign for sign, rule in enumerate(state) if rule[at] == item]
            reads = any_of([call_text(f"reads{sign}", times) for sign in signs])
            fits = "yes" if len(signs) == self.signs else reads
            text = "if " + call_text(f"state{number}", times) + f" then {fits} else {text}"
        return text

    def given(self, sign):
        """The text of whether a cell has a sign at the beginning."""
        cell = self.cells[-1]
        tagged = [f"has({cell}, {tag})" for tag in self.tags]
        if sign == 0:
            known = f"empty({cell})"
        elif sign <= len(self.tags):
            known = tagged[sign - 1]
        elif sign == len(self.tags) + 1:
            known = "not (" + any_of([f"empty({cell})", *tagged]) + ")"
        else:
            return "no"
        higher = self.cells[:-1]
        if not higher:
            return known
        # The cells that have the sign of a place are those whose number is its position.
        beyond = "yes" if sign == 0 else "no"
        return "if " + all_same(higher, "top") + f" then {known} else {beyond}"


def made(machine, c):
    """A program that does what a tape machine does with a clock."""
    if not is_tape(machine):
        raise BadMachine(machine)
    if not is_clock(c):
        raise BadNumber(c)
    return read("\n".join(Scribe(machine, c).lines()))
