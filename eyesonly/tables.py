"""Part 5: lots, reached calls and answers."""

from eyesonly.kinds import check_program, check_without_choice, first_functions
from eyesonly.lots import Sight
from eyesonly.meaning import check_call
from eyesonly.trees import standing


class Table:
    """The lots of all reached calls of a call.

    The lots grow from () on. A call is looked at when it is first demanded, and again when a lot that it demanded
    has grown. Calls have numbers, in the order in which they were first demanded. In grown each value of each lot
    stands as a pair of the call and the value, behind all those that it follows from.
    """

    def __init__(self, program, tree, call):
        self.lots = {}
        self.sight = Sight(first_functions(program), standing(tree), self.lots)
        self.calls = []
        self.asking = {}
        self.fresh = []
        self.due = {}
        self.grown = []
        self.meet(call)
        self.settle()

    def meet(self, call):
        """Give a call that was not demanded before its number and its first lot."""
        self.fresh.append(len(self.calls))
        self.calls.append(call)
        self.lots[call] = ()
        self.asking[call] = {}

    def settle(self):
        """Look at calls until no lot grows any more.

        Fresh calls come first, and those that are due from the last one on, so that a call is mostly looked at again
        after the calls that it demanded.
        """
        while self.fresh or self.due:
            while self.fresh:
                self.look_at(self.fresh.pop())
            turn = sorted(self.due, reverse=True)
            for number in turn:
                if number in self.due:
                    self.look_at(number)

    def look_at(self, number):
        """Let the lot of a call grow to what its body has now."""
        call = self.calls[number]
        self.due.pop(number, False)
        values = self.sight.values_of_body(call)
        for other in self.sight.demanded:
            if other not in self.lots:
                self.meet(other)
            self.asking[other][number] = True
        if values != self.lots[call]:
            self.grown.extend([(call, value) for value in values if value not in self.lots[call]])
            self.lots[call] = values
            for asker in self.asking[call]:
                self.due[asker] = True

    def lot_of(self, call):
        """The lot of a call, whether it was demanded before or not."""
        if call not in self.lots:
            self.meet(call)
            self.settle()
        return self.lots[call]


def settled(program, tree, call):
    """The table of a call of what is known to be a program."""
    check_call(program, tree, call)
    return Table(program, tree, call)


def lot(program, tree, call):
    """The lot of a call."""
    check_program(program)
    return settled(program, tree, call).lots[call]


def reached(program, tree, call):
    """The ascending tuple of the reached calls of a call."""
    check_program(program)
    return tuple(sorted(settled(program, tree, call).calls))


def answer(program, tree, call):
    """The outcome of a call of a program without choice, None if its run is endless."""
    check_program(program)
    check_without_choice(program)
    found = settled(program, tree, call).lots[call]
    return found[0] if found else None
