"""Part 10: the states of head machines that do what bodies of last programs do."""

from eyesonly.kinds import first_functions

ENDS = ("yes", "no")

# A test for states that only make moves; each machine that is made here has a head.
IDLE = ("same", 0, 0)


class StateMaker:
    """Makes the states for a function of a last program, and for all functions to which its calls lead.

    The heads of the names stand before all others. The states of a term are made from the last one to the first one,
    so that it is known where each one goes on: at the state with a number, at the end "yes" or "no", or at the
    beginning of the body of the function with a name. In begins there is for each function the number of its first
    state. No state holds a truth: where a term leads to for each of the two is given when its states are made.
    """

    def __init__(self, program, name):
        self.functions = first_functions(program)
        self.names = ()
        self.heads = 0
        self.states = []
        self.begins = {}
        self.waiting = [name]
        while self.waiting:
            self.add_function(self.waiting.pop())

    def add_function(self, name):
        """Make the states of the body of a function, once."""
        if name not in self.begins:
            function = self.functions[name]
            self.names = function[3]
            self.begins[name] = self.truth_state(len(self.names), function[4], "yes", "no")

    def put(self, test, moves, yes, no):
        """Add a state that makes these moves and goes on at yes or no; its number."""
        self.states.append((test, moves, yes, no))
        return len(self.states) - 1

    def move_state(self, head, move, after):
        """Add a state that makes a move and goes on at after."""
        return self.put(IDLE, ((head, move),), after, after)

    def place_state(self, target, term, after):
        """The first of the states that move the head target to the place of a term, and go on at after."""
        self.heads = max(self.heads, target + 1)
        word = term[0]
        if word == "name":
            return self.move_state(target, ("to", self.names.index(term[1])), after)
        if word == "top":
            return self.move_state(target, "top", after)
        if word == "if":
            yes = self.place_state(target, term[2], after)
            no = self.place_state(target, term[3], after)
            return self.truth_state(target, term[1], yes, no)
        return self.place_state(target, term[1], self.move_state(target, word, after))

    def truth_state(self, target, term, yes, no):
        """The first of the states that find the truth of a term, with heads from target on, and go on at yes or no."""
        self.heads = max(self.heads, target + 1)
        word = term[0]
        if word in ENDS:
            after = yes if word == "yes" else no
            return self.put(IDLE, (), after, after)
        if word == "not":
            return self.truth_state(target, term[1], no, yes)
        if word == "and":
            return self.truth_state(target, term[1], self.truth_state(target, term[2], yes, no), no)
        if word == "or":
            return self.truth_state(target, term[1], yes, self.truth_state(target, term[2], yes, no))
        if word == "if":
            one = self.truth_state(target, term[2], yes, no)
            other = self.truth_state(target, term[3], yes, no)
            return self.truth_state(target, term[1], one, other)
        if word == "call":
            return self.call_state(target, term)
        return self.test_state(target, term, yes, no)

    def test_state(self, target, term, yes, no):
        """As truth_state, for a term that looks at places."""
        if term[0] == "same":
            state = self.put(("same", target, target + 1), (), yes, no)
            return self.place_state(target, term[1], self.place_state(target + 1, term[2], state))
        state = self.put((term[0], target, *term[2:]), (), yes, no)
        return self.place_state(target, term[1], state)

    def call_state(self, target, term):
        """As truth_state, for a call at a last position: its outcome is that of the whole body."""
        _, name, terms = term
        self.waiting.append(name)
        moves = tuple([(head, ("to", target + head)) for head in range(len(terms))])
        state = self.put(IDLE, moves, name, name)
        for at in reversed(range(len(terms))):
            state = self.place_state(target + at, terms[at], state)
        return state

    def named(self, after):
        """What stands in a branch for where a state goes on."""
        if after in ENDS:
            return after
        number = self.begins[after] if isinstance(after, str) else after
        return f"s{number}"

    def machine(self, name):
        """The head machine that begins with the function with this name."""
        begin = self.begins[name]
        states = []
        for number in [begin, *[other for other in range(len(self.states)) if other != begin]]:
            test, moves, yes, no = self.states[number]
            states.append((f"s{number}", test, (self.named(yes), moves), (self.named(no), moves)))
        return ("heads", self.heads, tuple(states))
