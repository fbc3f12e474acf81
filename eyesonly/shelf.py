"""Part 12: words as trees, and a shelf of programs that ask about trees."""

from eyesonly.errors import BadRules, BadTags, BadTies, BadWord
from eyesonly.phrases import any_of, function_text
from eyesonly.texts import read
from eyesonly.trees import check_tree, is_tag

# The place behind the last node of the spine of a word.
ENDING = "fun ending(x): place = if empty(x) then x else ending(right(x))"

# x is the first node of what is still to be looked at, y the place behind its last one.
PALINDROME = (
    "fun main(): truth = mirrored(top, ending(top))",
    "fun mirrored(x, y): truth = same(x, y) or same(right(x), y) or alike(x, up(y)) and mirrored(right(x), up(y))",
    ENDING,
)
WITHIN = (
    "fun main(): truth = somewhere(top)",
    "fun somewhere(x): truth = begins0(x) or not empty(x) and somewhere(right(x))",
)
TWINS = (
    "fun main(): truth = empty(top) or twins(left(top), right(top))",
    "fun twins(x, y): truth = if empty(x) or empty(y) then empty(x) and empty(y) else"
    " alike(x, y) and twins(left(x), left(y)) and twins(right(x), right(y))",
)
GRAMMAR = ("fun main(): truth = derives0(top, ending(top))", ENDING)
# t counts the ties that may still be taken: a word has fewer unlike tags than nodes besides its first one.
REACH = (
    "fun main(): truth = near(up(ending(top)), up(ending(top)))",
    "fun near(x, t): truth = if same(t, top) then alike(x, top) else near(x, up(t)) or nearer(x, top, up(t))",
    "fun nearer(x, y, t): truth = not empty(y) and (tied(y, x) and near(y, t) or nearer(x, right(y), t))",
    ENDING,
)
GAME = (
    "fun main(): truth = value(top)",
    "fun value(x): truth = has(x, yes) or has(x, or) and (value(left(x)) or value(right(x)))"
    " or has(x, and) and value(left(x)) and value(right(x))",
)


def is_word(thing):
    """Whether any value is a tagged word."""
    return isinstance(thing, tuple) and all(is_tag(item) for item in thing)


def rises(items):
    """Whether items are ascending."""
    return all(items[at] < items[at + 1] for at in range(len(items) - 1))


def is_rule(thing):
    """Whether any value is a rule of a grammar."""
    if not isinstance(thing, tuple) or len(thing) < 2 or (thing[1], len(thing)) not in (("tag", 3), ("pair", 4)):
        return False
    return all(is_tag(item) for item in thing)


def is_tie(thing):
    """Whether any value is a tie."""
    return is_word(thing) and len(thing) == 2


def program_of(lines):
    """The program with these lines."""
    return read("\n".join(lines))


def alike_line(tags):
    """The line that tells whether two nodes have the same one of these tags."""
    return function_text("alike", ["x", "y"], "truth", any_of([f"has(x, {tag}) and has(y, {tag})" for tag in tags]))


def spine(word):
    """The spine of a tagged word."""
    if not is_word(word):
        raise BadWord(word)
    tree = None
    for tag in reversed(word):
        tree = (tag, None, tree)
    return tree


def word_of(tree):
    """The tagged word whose spine a tree is, or None."""
    check_tree(tree)
    tags = []
    part = tree
    while part is not None:
        tag, left, right = part
        if left is not None:
            return None
        tags.append(tag)
        part = right
    return tuple(tags)


def check_tags(tags):
    """Raise BadTags if any value is not an ascending tuple of tags."""
    if not is_word(tags) or not rises(tags):
        raise BadTags(tags)


def palindrome_program(tags):
    """A program that asks whether a word of these tags reads the same from both ends."""
    check_tags(tags)
    return program_of([*PALINDROME, alike_line(tags)])


def within_program(word):
    """A program that asks whether a word has this one in it."""
    if not is_word(word):
        raise BadWord(word)
    lines = list(WITHIN)
    for at, tag in enumerate(word):
        lines.append(f"fun begins{at}(x): truth = has(x, {tag}) and begins{at + 1}(right(x))")
    lines.append(f"fun begins{len(word)}(x): truth = yes")
    return program_of(lines)


def alike_program(tags):
    """A program that asks whether both parts of a tree with these tags are the same."""
    check_tags(tags)
    return program_of([*TWINS, alike_line(tags)])


def grammar_program(rules):
    """A program that asks whether the name of the first rule derives a word."""
    if not isinstance(rules, tuple) or not rules or not all(is_rule(item) for item in rules):
        raise BadRules(rules)
    # A name may be a word of the language, so that a number stands for it, in the order in which they have rules.
    numbers = {}
    for rule in rules:
        if rule[0] not in numbers:
            numbers[rule[0]] = len(numbers)
    ways = [[] for name in numbers]
    lines = list(GRAMMAR)
    for at, rule in enumerate(rules):
        if rule[1] == "tag":
            ways[numbers[rule[0]]].append(f"has(x, {rule[2]}) and same(right(x), y)")
        elif rule[2] in numbers and rule[3] in numbers:
            ways[numbers[rule[0]]].append(f"splits{at}(x, right(x), y)")
            lines.append(split_line(at, numbers[rule[2]], numbers[rule[3]]))
    for number, texts in enumerate(ways):
        lines.append(function_text(f"derives{number}", ["x", "y"], "truth", any_of(texts)))
    return program_of(lines)


def split_line(at, one, other):
    """The line that tells whether the rule at a position derives a word, split at z or further to the right."""
    name = f"splits{at}"
    here = f"derives{one}(x, z) and derives{other}(z, y)"
    body = f"not same(z, y) and ({here} or {name}(x, right(z), y))"
    return function_text(name, ["x", "z", "y"], "truth", body)


def reach_program(ties):
    """A program that asks whether the last tag of a word can be reached from its first one by these ties."""
    if not isinstance(ties, tuple) or not all(is_tie(item) for item in ties) or not rises(ties):
        raise BadTies(ties)
    tied = any_of([f"has(x, {one}) and has(y, {other})" for one, other in ties])
    tags = sorted(set([tag for tie in ties for tag in tie]))
    return program_of([*REACH, function_text("tied", ["x", "y"], "truth", tied), alike_line(tags)])


def game_program():
    """A program that asks for the value of a tree of "or", "and", "yes" and "no"."""
    return program_of(GAME)
