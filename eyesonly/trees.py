"""Part 1: trees, their places and their texts."""

from eyesonly.errors import BadPlace, BadText, BadTree, BadWay

LETTERS = "abcdefghijklmnopqrstuvwxyz"
TAG_LENGTH = 8
POSITIONS = {"l": 1, "r": 2}
WAYS = ("left", "right", "up", "top")


def is_tag(thing):
    """Whether any value is a tag."""
    return isinstance(thing, str) and 1 <= len(thing) <= TAG_LENGTH and all(sign in LETTERS for sign in thing)


def is_tree(thing):
    """Whether any value is a tree."""
    waiting = [thing]
    while waiting:
        part = waiting.pop()
        if part is None:
            continue
        if not isinstance(part, tuple) or len(part) != 3 or not is_tag(part[0]):
            return False
        waiting.append(part[1])
        waiting.append(part[2])
    return True


def check_tree(tree):
    """Raise BadTree if any value is not a tree."""
    if not is_tree(tree):
        raise BadTree(tree)


def standing(tree):
    """A dict that gives for each place, in ascending order, the part that stands there."""
    found = {}
    waiting = [("", tree)]
    while waiting:
        place, part = waiting.pop()
        found[place] = part
        if part is not None:
            # The last one is taken first, so all places that begin with l come before r.
            waiting.append((place + "r", part[2]))
            waiting.append((place + "l", part[1]))
    return found


def places(tree):
    """The ascending tuple of the places of a tree."""
    check_tree(tree)
    return tuple(standing(tree))


def has_place(tree, thing):
    """Whether any value is a place of what is known to be a tree."""
    if not isinstance(thing, str):
        return False
    part = tree
    for letter in thing:
        if part is None or letter not in POSITIONS:
            return False
        part = part[POSITIONS[letter]]
    return True


def is_place(tree, thing):
    """Whether any value is a place of the tree."""
    check_tree(tree)
    return has_place(tree, thing)


def are_places(tree, many, thing):
    """Whether any value is a tuple of so many places of what is known to be a tree."""
    return isinstance(thing, tuple) and len(thing) == many and all(has_place(tree, place) for place in thing)


def part_at(tree, place):
    """The tree that stands at a place."""
    check_tree(tree)
    if not has_place(tree, place):
        raise BadPlace(place)
    part = tree
    for letter in place:
        part = part[POSITIONS[letter]]
    return part


def place_from(part, place, way):
    """The place to which a way leads from a place, at which this part stands."""
    if way == "top":
        return ""
    if way == "up":
        return place[:-1]
    if part is None:
        return place
    return place + "l" if way == "left" else place + "r"


def led(tree, place, way):
    """The place to which a way leads from a place."""
    part = part_at(tree, place)
    if way not in WAYS:
        raise BadWay(way)
    return place_from(part, place, way)


def next_place(tree, place):
    """The next place in order, None for the last one."""
    if part_at(tree, place) is not None:
        return place + "l"
    # Only places that lie right of the way down to this one come after it.
    above = place.rstrip("r")
    return above[:-1] + "r" if above else None


def tree_written(tree):
    """The text of a tree."""
    check_tree(tree)
    pieces = []
    waiting = [tree]
    while waiting:
        part = waiting.pop()
        if part is None:
            pieces.append("-")
        elif isinstance(part, str):
            pieces.append(part)
        else:
            tag, left, right = part
            pieces.append(tag)
            if left is not None or right is not None:
                waiting.extend([")", right, ",", left, "("])
    return "".join(pieces)


class TreeReader:
    """Reads a text of a tree from left to right, with a list of open nodes, since brackets may be nested deeply."""

    def __init__(self, text):
        self.text = text
        self.at = 0
        self.opened = []
        self.tree = None

    def comes(self, sign):
        """Whether this sign is the next one."""
        return self.text[self.at:self.at + 1] == sign

    def take(self, sign):
        """Go on behind the next sign, which must be this one."""
        if not self.comes(sign):
            raise BadText(self.at)
        self.at += 1

    def take_tag(self):
        """Go on behind a tag, and return it."""
        end = self.at
        while end < len(self.text) and end - self.at < TAG_LENGTH and self.text[end] in LETTERS:
            end += 1
        if end == self.at:
            raise BadText(self.at)
        tag = self.text[self.at:end]
        self.at = end
        return tag

    def begin(self):
        """Read the beginning of a tree; whether it is all of it, so that no node is left open."""
        # A node both of whose parts are empty is written without brackets.
        right_of_empty = self.opened and self.opened[-1][1:] == [None]
        if self.comes("-") and not right_of_empty:
            self.at += 1
            self.tree = None
            return True
        tag = self.take_tag()
        if self.comes("("):
            self.at += 1
            self.opened.append([tag])
            return False
        self.tree = (tag, None, None)
        return True

    def finish(self):
        """Put the tree that was read where it belongs; whether no node is left open."""
        while self.opened and len(self.opened[-1]) == 2:
            self.take(")")
            tag, left = self.opened.pop()
            self.tree = (tag, left, self.tree)
        if not self.opened:
            return True
        self.take(",")
        self.opened[-1].append(self.tree)
        return False

    def whole(self):
        """The tree of the whole text."""
        finished = False
        while not finished:
            finished = self.begin() and self.finish()
        if self.at < len(self.text):
            raise BadText(self.at)
        return self.tree


def tree_read(text):
    """The tree with a text."""
    if not isinstance(text, str):
        raise BadText(-1)
    return TreeReader(text).whole()
