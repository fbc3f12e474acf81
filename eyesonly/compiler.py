"""Part 9: the compiler, which makes code of programs without choice."""

from eyesonly.kinds import check_program, check_without_choice, paths_within
from eyesonly.meaning import CONSTANTS
from eyesonly.terms import parts_of


class Maker:
    """Makes the rows of one function. In paths there is for each row the path of the term from which it comes."""

    def __init__(self, function, numbers):
        self.function = function
        self.numbers = numbers
        self.rows = []
        self.paths = []
        self.registers = 0
        # The registers of the names stand before this one.
        target = len(function[3])
        self.compile_into(target, function[4], ())
        self.put(("give", target), ())

    def put(self, row, path):
        """Add a row that comes from the term at a path."""
        self.rows.append(row)
        self.paths.append(path)

    def compile_into(self, target, term, path):
        """Add the rows of a term, compiled into the register with the number target."""
        self.registers = max(self.registers, target + 1)
        word = term[0]
        if word == "name":
            self.put(("move", target, self.function[3].index(term[1])), path)
        elif word in CONSTANTS:
            self.put((word, target), path)
        elif word in ("and", "or"):
            self.compile_decided(target, term, path)
        elif word == "if":
            self.compile_if(target, term, path)
        else:
            self.compile_parts(target, term, path)

    def compile_parts(self, target, term, path):
        """Add the rows of a term all of whose parts are evaluated."""
        word = term[0]
        parts = parts_of(term)
        for at, way in enumerate(paths_within(term)):
            self.compile_into(target + at, parts[at], path + way)
        if word == "call":
            registers = tuple([target + at for at in range(len(parts))])
            self.put(("call", target, self.numbers[term[1]], registers), path)
        elif word == "same":
            self.put(("same", target, target, target + 1), path)
        elif word == "has":
            self.put(("has", target, target, term[2]), path)
        else:
            self.put((word, target, target), path)

    def compile_decided(self, target, term, path):
        """Add the rows of an "and" or "or"."""
        self.compile_into(target, term[1], path + (1,))
        test = len(self.rows)
        self.put(("unless", target), path)
        if term[0] == "or":
            self.put(("skip",), path)
        begin = len(self.rows)
        self.compile_into(target, term[2], path + (2,))
        # The numbers of the rows to which these lead are known only now.
        behind = len(self.rows)
        if term[0] == "or":
            self.rows[test] = ("unless", target, begin)
            self.rows[test + 1] = ("skip", behind)
        else:
            self.rows[test] = ("unless", target, behind)

    def compile_if(self, target, term, path):
        """Add the rows of an "if"."""
        self.compile_into(target, term[1], path + (1,))
        test = len(self.rows)
        self.put(("unless", target), path)
        self.compile_into(target, term[2], path + (2,))
        leap = len(self.rows)
        self.put(("skip",), path)
        self.rows[test] = ("unless", target, len(self.rows))
        self.compile_into(target, term[3], path + (3,))
        self.rows[leap] = ("skip", len(self.rows))

    def code_function(self):
        """The code function."""
        return (self.function[2], len(self.function[3]), self.registers, tuple(self.rows))


def makers_of(program):
    """The makers of the functions of a program, which may be any value."""
    check_program(program)
    check_without_choice(program)
    numbers = {function[1]: number for number, function in enumerate(program)}
    return [Maker(function, numbers) for function in program]


def compiled(program):
    """The code of a program."""
    return tuple([maker.code_function() for maker in makers_of(program)])


def code_map(program):
    """For each function of a program, the tuple of the paths from which its rows come."""
    return tuple([tuple(maker.paths) for maker in makers_of(program)])


def call_number(program, name):
    """The number of the function with a name, None if there is none."""
    check_program(program)
    for number, function in enumerate(program):
        if function[1] == name:
            return number
    return None
