"""Part 8: the table machine, and certificates for what it finds."""

from eyesonly.frames import run_with
from eyesonly.integers import is_natural
from eyesonly.machines import are_places_for, check_code_call, is_number_of
from eyesonly.trees import standing


class TableMachine:
    """A whole run of the table machine.

    table gives the outcomes of calls, in the order in which they were found. waits gives for each call that stopped
    the call for which it waits or waited last, and waiting for each call those that wait for it.
    """

    def __init__(self, code, tree, call):
        self.code = code
        self.ground = standing(tree)
        self.call = call
        self.table = {}
        self.waits = {}
        self.waiting = {call: []}
        self.queue = [call]
        self.executed = 0
        self.go_through()

    def go_through(self):
        """Take calls off the queue, as long as the asked call has no outcome; they stay in the list."""
        taken = 0
        while self.call not in self.table and taken < len(self.queue):
            self.run_call(self.queue[taken])
            taken += 1

    def run_call(self, call):
        """Run a call up to its outcome, or up to a call without one."""
        asked, outcome, executed = run_with(self.table, self.code, self.ground, call)
        self.executed += executed
        if asked is None:
            self.table[call] = outcome
            self.queue.extend(self.waiting[call])
            self.waiting[call] = []
            return
        if asked not in self.waiting:
            self.waiting[asked] = []
            self.queue.append(asked)
        self.waits[call] = asked
        self.waiting[asked].append(call)

    def entries(self):
        """The entries of a certificate for all outcomes that were found."""
        return tuple([(call, self.table[call], rank) for rank, call in enumerate(self.table)])

    def ring(self):
        """The calls of which each one waits for the next one, from the asked call on."""
        found = {}
        call = self.call
        while call not in found:
            found[call] = True
            call = self.waits[call]
        return tuple(found)


def machine_of(code, tree, f, places):
    """The run of the table machine for arguments that accept any values."""
    check_code_call(code, tree, f, places)
    return TableMachine(code, tree, (f, places))


def run_table(code, tree, f, places):
    """What comes of the table machine's run of a call of code."""
    machine = machine_of(code, tree, f, places)
    if machine.call in machine.table:
        return ("given", machine.table[machine.call], machine.executed)
    return ("endless", machine.ring(), machine.executed)


def calls_met(code, tree, f, places):
    """The ascending tuple of all calls that were in the table machine's queue."""
    return tuple(sorted(machine_of(code, tree, f, places).waiting))


def judge_run(code, tree, f, places):
    """A certificate for the outcome of a call of code, or for its having none."""
    machine = machine_of(code, tree, f, places)
    if machine.call in machine.table:
        return ("given", machine.table[machine.call], machine.entries())
    return ("endless", machine.entries(), machine.ring())


class Site:
    """Accepted code with a tree: what is a call, an outcome, an entry there, and what comes of runs with entries."""

    def __init__(self, code, tree):
        self.code = code
        self.tree = tree
        self.ground = standing(tree)

    def is_call(self, thing):
        """Whether any value is a code call."""
        if not isinstance(thing, tuple) or len(thing) != 2 or not is_number_of(self.code, thing[0]):
            return False
        return are_places_for(self.code, self.tree, thing[0], thing[1])

    def is_outcome(self, thing):
        """Whether any value is a place or a truth."""
        return isinstance(thing, bool) or isinstance(thing, str) and thing in self.ground

    def is_triple(self, thing):
        """Whether any value is a triple of a call, an outcome and a rank."""
        if not isinstance(thing, tuple) or len(thing) != 3:
            return False
        return self.is_call(thing[0]) and self.is_outcome(thing[1]) and is_natural(thing[2])

    def are_entries(self, thing):
        """Whether any value is a tuple of triples, no call twice, of which each outcome follows from lesser ranks."""
        if not isinstance(thing, tuple) or not all(self.is_triple(item) for item in thing):
            return False
        return len(set([call for call, _, _ in thing])) == len(thing) and self.follow(thing)

    def follow(self, triples):
        """Whether the rows of each call, run with the outcomes of lesser ranks, give its outcome."""
        known = {}
        fresh = []
        below = 0
        for call, outcome, rank in sorted(triples, key=lambda triple: triple[2]):
            if rank > below:
                for other, found in fresh:
                    known[other] = found
                fresh = []
                below = rank
            asked, given, _ = run_with(known, self.code, self.ground, call)
            if asked is not None or given != outcome:
                return False
            fresh.append((call, outcome))
        return True

    def is_ring(self, entries, calls):
        """Whether each of the calls stops at the next one, and the last one at some one of them; none has an entry."""
        known = {call: outcome for call, outcome, _ in entries}
        # A call that has an entry does not stop.
        stops = [run_with(known, self.code, self.ground, call)[0] for call in calls]
        return stops[:-1] == list(calls[1:]) and stops[-1] in calls


def run_holds(code, tree, f, places, thing):
    """Whether any value is a certificate for the outcome of a call of code, or for its having none."""
    check_code_call(code, tree, f, places)
    if not isinstance(thing, tuple) or len(thing) != 3:
        return False
    site = Site(code, tree)
    if thing[0] == "given":
        return given_holds(site, (f, places), thing[1], thing[2])
    return thing[0] == "endless" and endless_holds(site, (f, places), thing[1], thing[2])


def given_holds(site, call, value, entries):
    """Whether any values are the outcome of a call and entries that show it."""
    if not site.is_outcome(value) or not site.are_entries(entries):
        return False
    return (call, value) in [(other, outcome) for other, outcome, _ in entries]


def endless_holds(site, call, entries, calls):
    """Whether any values are entries and calls that wait for one another, from a call on."""
    if not site.are_entries(entries) or not isinstance(calls, tuple) or not calls or calls[0] != call:
        return False
    if not all(site.is_call(other) for other in calls) or len(set(calls)) < len(calls):
        return False
    return site.is_ring(entries, calls)
