"""Parts 10 and 11, said once more for the tests: last programs, head machines and tape machines."""

from tests.codes import is_number
from tests.programs import ProgramMaker, moved, tree_parts

HEAD_NAMES = ("a", "ab", "abc", "state_0", "s", "s1", "s10", "h0", "h1", "abcdefghijklmnopqrst", "abcdefghijklmnopqrsu", "z_9")
WORDS = "fun place truth if then else either not and or yes no top left right up has empty same".split()


def terms_by_paths(term, path=()):
    """Each term in a term, with its path."""
    found = [(path, term)]
    for at, item in enumerate(term):
        if isinstance(item, tuple) and term[0] == "call":
            for position, other in enumerate(item):
                found += terms_by_paths(other, path + (at, position))
        elif isinstance(item, tuple):
            found += terms_by_paths(item, path + (at,))
    return found


def last_positions(body):
    """[10.1]: the paths of the last positions."""
    found = {()}
    grown = True
    while grown:
        more = set()
        for path, term in terms_by_paths(body):
            if path in found and term[0] == "if":
                more |= {path + (2,), path + (3,)}
            elif path in found and term[0] in ("and", "or"):
                more |= {path + (2,)}
        grown = not more <= found
        found |= more
    return found


def last_by_words(program):
    """[10.1]: the certificate."""
    for _, name, _, _, body in program:
        last = last_positions(body)
        for path, term in sorted(terms_by_paths(body), key=lambda pair: pair[0]):
            if term[0] == "either":
                return ("choice", name, path)
            if term[0] == "call" and path not in last:
                return ("within", name, path)
    return ("last",)


def evaluated(term, names, parts):
    """The value of a term, or the call that stands next, as a pair."""
    word = term[0]
    if word == "name":
        return names[term[1]]
    if word in ("top", "yes", "no"):
        return {"top": "", "yes": True, "no": False}[word]
    if word == "call":
        return (term[1], tuple(evaluated(part, names, parts) for part in term[2]))
    first = evaluated(term[1], names, parts)
    if word == "if":
        return evaluated(term[2] if first else term[3], names, parts)
    if word == "and":
        return evaluated(term[2], names, parts) if first else False
    if word == "or":
        return True if first else evaluated(term[2], names, parts)
    if word == "not":
        return not first
    if word == "same":
        return first == evaluated(term[2], names, parts)
    if word == "empty":
        return parts[first] is None
    if word == "has":
        return parts[first] is not None and parts[first][0] == term[2]
    return moved(parts, first, word)


def run_last_by_words(program, tree, name, places):
    """[10.2]"""
    parts = tree_parts(tree)
    functions = {function[1]: function for function in program}
    calls = [(name, places)]
    while True:
        function = functions[calls[-1][0]]
        found = evaluated(function[4], dict(zip(function[3], calls[-1][1])), parts)
        if not isinstance(found, tuple):
            return ("given", found, len(calls))
        if found in calls:
            return ("endless", found, len(calls) - calls.index(found))
        calls.append(found)


class LastMaker(ProgramMaker):
    """Makes last programs at random."""

    def __init__(self, seed):
        super().__init__(seed, False)

    def program(self, functions, most_names, depth):
        self.heads = []
        for at in range(functions):
            names = ("x", "y", "z1", "w_w", "v")[:self.source.randrange(most_names + 1)]
            self.heads.append((f"f{at}", self.source.choice(("place", "truth", "truth")), names))
        made = []
        for name, kind, names in self.heads:
            self.names = names
            made.append(("fun", name, kind, names, self.last_term(kind, depth)))
        return tuple(made)

    def last_term(self, kind, depth):
        """A term for a last position."""
        if depth == 0 or self.source.random() < 0.3:
            callable_heads = [head for head in self.heads if head[1] == kind]
            if self.source.random() < 0.3:
                return self.plain(kind, 1)
            name, _, names = self.source.choice(callable_heads)
            return ("call", name, tuple(self.plain("place", 2) for _ in names))
        word = self.source.choice(("if", "if", "and", "or") if kind == "truth" else ("if",))
        first = self.plain("truth", 3)
        if word == "if":
            return ("if", first, self.last_term(kind, depth - 1), self.last_term(kind, depth - 1))
        return (word, first, self.last_term(kind, depth - 1))

    def plain(self, kind, depth):
        """A term without calls."""
        heads, self.heads = self.heads, []
        term = self.term(kind, depth)
        self.heads = heads
        return term


def is_head_name(thing):
    if not isinstance(thing, str) or not 1 <= len(thing) <= 20 or thing in WORDS:
        return False
    return thing[0].isalpha() and all(sign in "abcdefghijklmnopqrstuvwxyz0123456789_" for sign in thing)


def is_machine_by_words(thing):
    """[10.3]"""
    if not isinstance(thing, tuple) or len(thing) != 3 or thing[0] != "heads" or not is_number(thing[1]):
        return False
    k, states = thing[1:]
    if not isinstance(states, tuple) or len(states) == 0:
        return False
    if not all(isinstance(state, tuple) and len(state) == 4 and is_head_name(state[0]) for state in states):
        return False
    names = [state[0] for state in states]
    if len(names) != len(set(names)):
        return False

    def is_head(value):
        return is_number(value) and value < k

    def is_test(test):
        if not isinstance(test, tuple) or not all(is_head(item) for item in test[1:2]):
            return False
        if len(test) == 2:
            return test[0] == "empty"
        if len(test) != 3:
            return False
        if test[0] == "same":
            return is_head(test[2])
        tag = test[2]
        return test[0] == "has" and isinstance(tag, str) and 1 <= len(tag) <= 8 and all("a" <= sign <= "z" for sign in tag)

    def is_move(pair):
        if not isinstance(pair, tuple) or len(pair) != 2 or not is_head(pair[0]):
            return False
        if isinstance(pair[1], str):
            return pair[1] in ("top", "left", "right", "up")
        return isinstance(pair[1], tuple) and len(pair[1]) == 2 and pair[1][0] == "to" and is_head(pair[1][1])

    def is_branch(branch):
        if not isinstance(branch, tuple) or len(branch) != 2 or not isinstance(branch[0], str):
            return False
        if branch[0] not in ("yes", "no") and branch[0] not in names:
            return False
        if not isinstance(branch[1], tuple) or not all(is_move(pair) for pair in branch[1]):
            return False
        heads = [pair[0] for pair in branch[1]]
        return heads == sorted(set(heads))

    return all(is_test(test) and is_branch(yes) and is_branch(no) for _, test, yes, no in states)


def run_heads_by_words(machine, tree, places):
    """[10.4]"""
    parts = tree_parts(tree)
    states = {state[0]: state for state in machine[2]}
    standings = [(machine[2][0][0], places)]
    while True:
        name, here = standings[-1]
        _, test, yes, no = states[name]
        if test[0] == "same":
            truth = here[test[1]] == here[test[2]]
        elif test[0] == "empty":
            truth = parts[here[test[1]]] is None
        else:
            truth = parts[here[test[1]]] is not None and parts[here[test[1]]][0] == test[2]
        after, moves = yes if truth else no
        if after in ("yes", "no"):
            return ("given", after == "yes", len(standings))
        places = list(here)
        for head, move in moves:
            if isinstance(move, tuple):
                places[head] = here[move[1]]
            else:
                places[head] = "" if move == "top" else moved(parts, here[head], move)
        standing = (after, tuple(places))
        if standing in standings:
            return ("endless", standing, len(standings) - standings.index(standing))
        standings.append(standing)


def random_machine(source, k, many):
    """A head machine."""
    names = source.sample(HEAD_NAMES, many)

    def test():
        word = source.choice(("has", "has", "empty", "same"))
        if word == "has":
            return ("has", source.randrange(k), source.choice(("a", "b", "if")))
        return ("empty", source.randrange(k)) if word == "empty" else ("same", source.randrange(k), source.randrange(k))

    def branch():
        moving = sorted(source.sample(range(k), source.randrange(k + 1)))
        after = source.choice(names + ["yes", "no"][:source.randrange(3)])
        ways = ("top", "left", "left", "right", "right", "up", "to")
        moves = [(head, source.choice(ways)) for head in moving]
        return (after, tuple((head, ("to", source.randrange(k)) if way == "to" else way) for head, way in moves))

    return ("heads", k, tuple((name, test(), branch(), branch()) for name in names))


def is_tape_by_words(thing):
    """[11.1]"""
    if not isinstance(thing, tuple) or len(thing) != 4 or thing[0] != "tape":
        return False
    tags, signs, states = thing[1:]
    if not isinstance(tags, tuple):
        return False
    for tag in tags:
        if not isinstance(tag, str) or not 1 <= len(tag) <= 8 or not all("a" <= sign <= "z" for sign in tag):
            return False
    if len(set(tags)) < len(tags) or not is_number(signs) or signs < len(tags) + 2:
        return False
    if not isinstance(states, tuple) or len(states) == 0:
        return False
    for state in states:
        if not isinstance(state, tuple) or len(state) != signs:
            return False
        for rule in state:
            if not isinstance(rule, tuple) or len(rule) != 3 or not is_number(rule[0]) or rule[0] > len(states) + 1:
                return False
            if not is_number(rule[1]) or rule[1] >= signs or type(rule[2]) is not int or abs(rule[2]) > 1:
                return False
    return True


def tape_by_words(machine, tree, c, many):
    """[11.2]: the standing after many steps."""
    _, tags, _, states = machine
    parts = tree_parts(tree)
    cells = [0] * len(parts) ** c
    for at, place in enumerate(sorted(parts)):
        if parts[place] is not None:
            cells[at] = tags.index(parts[place][0]) + 1 if parts[place][0] in tags else len(tags) + 1
    state = head = 0
    for _ in range(many):
        if state < len(states):
            after, sign, move = states[state][cells[head]]
            cells[head] = sign
            state = after
            head = max(0, min(len(cells) - 1, head + move))
    return (state, head, tuple(cells))


def outcome_by_words(machine, tree, c):
    """[11.2]: whether the outcome is yes."""
    return tape_by_words(machine, tree, c, len(tree_parts(tree)) ** c - 1)[0] == len(machine[3])


def random_tape(source, tags, signs, states, ends=0.3):
    """A tape machine; ends tells how often a rule leads to an end."""

    def rule():
        after = states + source.randrange(2) if source.random() < ends else source.randrange(states)
        return (after, source.randrange(signs), source.choice((-1, 0, 1, 1)))

    return ("tape", tags, signs, tuple(tuple(rule() for _ in range(signs)) for _ in range(states)))
