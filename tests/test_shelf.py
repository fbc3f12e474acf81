"""The shelf of programs: points [12.1] and [12.2], the limits of part 12, and the heading "eyesonly/shelf.py"."""

import itertools
import random
import unittest

from eyesonly.shelf import (
    alike_program, game_program, grammar_program, palindrome_program, reach_program, spine, within_program, word_of,
)
from eyesonly.tables import answer
from eyesonly.trees import is_tree
from tests.helpers import ODD_VALUES, chain, changed, check_raises, random_tree, same_value
from tests.limits import check_program_limits, check_run_limits

MAIN = ("main", ())
ODD_TAGS = ("a", "b", "A", "", "abcdefghi", None, 1, True, ("a",), ["a"], "a1", " a")


def words_over(tags, most):
    """All words of these tags with at most so many tags."""
    return [word for many in range(most + 1) for word in itertools.product(tags, repeat=many)]


def is_word_by_words(thing):
    """Whether any value is a tagged word."""
    letters = "abcdefghijklmnopqrstuvwxyz"
    return isinstance(thing, tuple) and all(
        isinstance(tag, str) and 1 <= len(tag) <= 8 and all(sign in letters for sign in tag) for tag in thing
    )


def are_tags_by_words(thing):
    """Whether any value is an ascending tuple of tags."""
    return is_word_by_words(thing) and list(thing) == sorted(set(thing))


def spine_by_words(word):
    """[12.1]"""
    return (word[0], None, spine_by_words(word[1:])) if word else None


def trees_over(tags, nodes):
    """All trees of these tags with so many nodes."""
    if nodes == 0:
        return [None]
    found = []
    for left in range(nodes):
        for one in trees_over(tags, left):
            for other in trees_over(tags, nodes - 1 - left):
                found += [(tag, one, other) for tag in tags]
    return found


def derived(rules, name, word):
    """[12.2]: whether a name derives a word."""
    if word == ():
        return False
    for rule in rules:
        if rule[0] == name and rule[1] == "tag" and word == (rule[2],):
            return True
        if rule[0] == name and rule[1] == "pair":
            for at in range(1, len(word)):
                if derived(rules, rule[2], word[:at]) and derived(rules, rule[3], word[at:]):
                    return True
    return False


def reaches(ties, word):
    """[12.2]: whether the last tag can be reached from the first one, through tags of the word."""
    known = {word[0]}
    for _ in word:
        known |= {other for one, other in ties if one in known and other in word}
    return word[-1] in known


def value_of(tree):
    """[12.2]: the value of a tree of a game."""
    if tree is None or tree[0] == "no":
        return False
    values = (value_of(tree[1]), value_of(tree[2]))
    return tree[0] == "yes" or (any(values) if tree[0] == "or" else all(values))


class Spines(unittest.TestCase):
    def test_each_of_the_other(self):
        for word in words_over(("a", "b", "if"), 5) + [("abcdefgh",) * 40, ("a", "b") * 30]:
            tree = spine(word)
            self.assertTrue(same_value(tree, spine_by_words(word)))
            self.assertTrue(same_value(word_of(tree), word))
            self.assertTrue(same_value(spine(word_of(tree)), tree))

    def test_small_words(self):
        self.assertIsNone(spine(()))
        self.assertEqual(word_of(None), ())
        self.assertEqual(spine(("yes",)), ("yes", None, None))
        self.assertEqual(word_of(("a", None, ("b", None, ("a", None, None)))), ("a", "b", "a"))

    def test_trees_that_are_no_spine(self):
        for nodes in range(5):
            for tree in trees_over(("a", "b"), nodes):
                found = word_of(tree)
                if found is None:
                    self.assertFalse(any(same_value(tree, spine(word)) for word in itertools.product(("a", "b"), repeat=nodes)))
                else:
                    self.assertEqual(spine(found), tree)
        for letters in ("l", "rl", "rrrl", "lr", "r" * 39 + "l"):
            self.assertEqual(word_of(chain(letters)), None if len(letters) > 1 and "l" in letters[:-1] else ("a",) * len(letters))
        for place in range(4):
            tree = spine(("a",) * 4)
            parts = []
            for _ in range(place):
                parts.append(tree)
                tree = tree[2]
            tree = (tree[0], ("b", None, None), tree[2])
            for part in reversed(parts):
                tree = (part[0], None, tree)
            self.assertIsNone(word_of(tree))

    def test_bad_word(self):
        for thing in [["a"], "a", ("a", "B"), ("",), (("a",),), (None,), ("a", None, None), 1, {"a": 1}] + ODD_VALUES:
            if not is_word_by_words(thing):
                check_raises(self, "BadWord", thing, spine, thing)
            elif len(thing) < 50:
                self.assertEqual(word_of(spine(thing)), thing)

    def test_bad_tree(self):
        for thing in [("a", None, "b"), ("a", "b"), ("A", None, None), ("a", None, ["a", None, None]), ("a", ("b", None), None)] + ODD_VALUES:
            if not is_tree(thing):
                check_raises(self, "BadTree", thing, word_of, thing)


class Shelf(unittest.TestCase):
    def check(self, program, trees, expected, limits=True):
        """The program answers on these trees as expected; how often each answer came."""
        check_program_limits(self, program)
        counts = {True: 0, False: 0}
        for tree in trees:
            right = expected(tree)
            self.assertIs(answer(program, tree, MAIN), right, (program, tree))
            if limits:
                self.assertIs(check_run_limits(self, program, tree), right)
            counts[right] += 1
        return counts


class Palindromes(Shelf):
    def check_words(self, tags, words):
        return self.check(palindrome_program(tags), [spine(word) for word in words], lambda tree: word_of(tree) == word_of(tree)[::-1])

    def test_small_words(self):
        found = self.check_words(("a", "b"), words_over(("a", "b"), 6))
        self.assertEqual(found, {True: 1 + 2 + 2 + 4 + 4 + 8 + 8, False: 127 - 29})
        self.check_words(("a", "b", "c"), words_over(("a", "b", "c"), 4))
        self.check_words(("abcdefgh", "b", "if", "top")[1:], words_over(("b", "if", "top"), 3))

    def test_no_tags(self):
        self.assertEqual(self.check_words((), [()]), {True: 1, False: 0})

    def test_one_tag(self):
        self.assertEqual(self.check_words(("a",), words_over(("a",), 16)), {True: 17, False: 0})

    def test_tags_that_the_word_has_not(self):
        self.check_words(("a", "b", "c", "d"), words_over(("b", "d"), 4))

    def test_tags_that_are_words_of_the_language(self):
        tags = ("and", "fun", "no", "yes")
        self.check_words(tags, words_over(tags, 3))

    def test_the_limits(self):
        tags = ("a", "b", "c", "d")
        source = random.Random(601)
        words = []
        for many in range(9):
            half = tuple(source.choice(tags) for _ in range(many))
            words += [half + half[::-1], half + half[::-1][1:], half + half]
            if many:
                at = source.randrange(many)
                words += [half + half[::-1][:at] + ("a",) + half[::-1][at + 1:]]
        words += [("a",) * 16, ("a",) * 15 + ("b",), ("a",) * 8 + ("b",) + ("a",) * 7, ("a", "b", "c", "d") * 4]
        found = self.check_words(tags, words)
        self.assertGreater(min(found.values()), 8)

    def test_errors(self):
        for thing in [["a"], "a", ("b", "a"), ("a", "a"), ("a", "b", "b"), ("a", "c", "b"), ("A",), ("a", "B"), ("",), ("abcdefghi",), (1,), (None,), (("a",),), (["a"],), None, 0, True, {}, {"a": 1}]:
            check_raises(self, "BadTags", thing, palindrome_program, thing)
            check_raises(self, "BadTags", thing, alike_program, thing)
        things = [thing for tags in (("a", "b"), ("a", "ab", "b"), ("a", "aa"), ()) for thing in changed(tags, ODD_TAGS)]
        for thing in things + ODD_VALUES:
            if not are_tags_by_words(thing):
                check_raises(self, "BadTags", thing, palindrome_program, thing)
                check_raises(self, "BadTags", thing, alike_program, thing)
            else:
                check_program_limits(self, palindrome_program(thing))
                check_program_limits(self, alike_program(thing))


class Within(Shelf):
    def check_words(self, given, words):
        def has(tree):
            word = word_of(tree)
            return any(word[at:at + len(given)] == given for at in range(len(word) + 1))

        return self.check(within_program(given), [spine(word) for word in words], has)

    def test_small_words(self):
        for given in words_over(("a", "b"), 3):
            self.check_words(given, words_over(("a", "b"), 4))

    def test_the_empty_given_word(self):
        found = self.check_words((), words_over(("a", "b"), 3))
        self.assertEqual(found[False], 0)

    def test_given_words_that_are_longer(self):
        self.assertEqual(self.check_words(("a", "a", "a"), [(), ("a",), ("a", "a"), ("a", "a", "a")]), {True: 1, False: 3})

    def test_overlaps(self):
        self.check_words(("a", "b", "a", "b", "b"), [("a", "b", "a", "b", "a", "b", "b"), ("a", "b", "a", "b", "a", "b"), ("b", "a", "b", "a", "b", "b")])
        self.check_words(("a", "a", "b"), [("a",) * many + ("b",) for many in range(8)])

    def test_other_tags(self):
        self.check_words(("if", "abcdefgh"), words_over(("if", "abcdefgh", "x"), 3))

    def test_the_limits(self):
        source = random.Random(607)
        for many in range(6):
            given = tuple(source.choice("ab") for _ in range(many))
            words = [tuple(source.choice("ab") for _ in range(10)) for _ in range(20)]
            words += [("a",) * at + given + ("b",) * (10 - at - many) for at in range(11 - many)]
            self.check_words(given, words)

    def test_longer_given_words(self):
        given = ("a", "b", "c") * 10
        self.check_words(given, [given, given[1:], ("a",) + given, given + ("a", "a")])

    def test_errors(self):
        for thing in [["a"], "a", ("A",), ("a", ""), ("abcdefghi",), (1,), (None,), (("a",),), None, 0, {}]:
            check_raises(self, "BadWord", thing, within_program, thing)
        for thing in list(changed(("b", "a", "b"), ODD_TAGS)) + ODD_VALUES:
            if not is_word_by_words(thing):
                check_raises(self, "BadWord", thing, within_program, thing)
            elif len(thing) < 30:
                check_program_limits(self, within_program(thing))


class Twins(Shelf):
    def check_trees(self, tags, trees):
        return self.check(alike_program(tags), trees, lambda tree: tree is None or tree[1] == tree[2])

    def test_small_trees(self):
        trees = [tree for nodes in range(4) for tree in trees_over(("a", "b"), nodes)]
        found = self.check_trees(("a", "b"), trees)
        self.assertEqual(found, {True: 1 + 2 + 4, False: 44})
        self.check_trees(("a",), [tree for nodes in range(6) for tree in trees_over(("a",), nodes)])

    def test_no_tags(self):
        self.assertEqual(self.check_trees((), [None]), {True: 1, False: 0})

    def test_one_node_otherwise(self):
        source = random.Random(613)
        for nodes in range(1, 5):
            part = random_tree(source, nodes, ("a", "b", "c", "d"))
            for other in changed(part, ["a", "b", None, ("c", None, None)]):
                if self.is_tree(other):
                    for tag in ("a", "d"):
                        self.check_trees(("a", "b", "c", "d"), [(tag, part, other), (tag, other, part), (tag, part, part)])

    def is_tree(self, thing):
        if thing is None:
            return True
        if not isinstance(thing, tuple) or len(thing) != 3 or thing[0] not in ("a", "b", "c", "d"):
            return False
        return self.is_tree(thing[1]) and self.is_tree(thing[2])

    def test_tags_that_are_words_of_the_language(self):
        trees = [tree for nodes in range(4) for tree in trees_over(("if", "then"), nodes)]
        self.check_trees(("if", "then"), trees)

    def test_the_limits(self):
        source = random.Random(617)
        trees = [random_tree(source, 10, ("a", "b", "c", "d")) for _ in range(15)]
        for nodes in (4, 4, 4):
            part = random_tree(source, nodes, ("a", "b", "c", "d"))
            trees += [("a", part, part), ("b", part, None), ("c", ("d", part, None), part)]
        trees += [("a", chain("llll"), chain("llll")), ("a", chain("llll"), chain("rrrr")), ("a", chain("lrlr"), chain("lrlr"))]
        found = self.check_trees(("a", "b", "c", "d"), trees)
        self.assertGreater(min(found.values()), 4)


class Grammars(Shelf):
    def check_words(self, rules, words):
        return self.check(grammar_program(rules), [spine(word) for word in words], lambda tree: derived(rules, rules[0][0], word_of(tree)))

    def test_one_rule(self):
        self.assertEqual(self.check_words((("s", "tag", "a"),), words_over(("a", "b"), 3)), {True: 1, False: 14})
        self.assertEqual(self.check_words((("s", "pair", "s", "s"),), words_over(("a", "b"), 3))[True], 0)
        self.assertEqual(self.check_words((("s", "pair", "t", "u"),), words_over(("a", "b"), 3))[True], 0)

    def test_the_empty_word(self):
        for rules in ((("s", "tag", "a"),), (("s", "pair", "s", "s"), ("s", "tag", "a")), (("s", "pair", "t", "t"), ("t", "tag", "a"))):
            self.assertEqual(self.check_words(rules, [()]), {True: 0, False: 1})

    def test_brackets(self):
        rules = (("s", "pair", "open", "close"), ("s", "pair", "open", "rest"), ("rest", "pair", "s", "close"), ("s", "pair", "s", "s"), ("open", "tag", "a"), ("close", "tag", "b"))
        found = self.check_words(rules, words_over(("a", "b"), 4))
        self.assertEqual(found[True], 1 + 2)

    def test_rules_for_the_first_name_alone_and_for_others(self):
        self.check_words((("s", "tag", "a"), ("s", "pair", "s", "s")), words_over(("a", "b"), 4))
        self.check_words((("s", "tag", "a"), ("t", "tag", "b"), ("t", "pair", "s", "s")), words_over(("a", "b"), 3))
        self.check_words((("s", "pair", "t", "s"), ("t", "tag", "a"), ("t", "tag", "b"), ("s", "pair", "t", "t")), words_over(("a", "b"), 4))

    def test_the_first_rule_gives_the_name(self):
        rules = (("s", "tag", "a"), ("t", "pair", "s", "s"))
        self.assertEqual(self.check_words(rules, words_over(("a",), 3)), {True: 1, False: 3})
        self.assertEqual(self.check_words(rules[::-1], words_over(("a",), 3)), {True: 1, False: 3})
        self.assertIs(answer(grammar_program(rules[::-1]), spine(("a", "a")), MAIN), True)

    def test_names_without_rules(self):
        self.check_words((("s", "pair", "s", "none"), ("s", "pair", "none", "s"), ("s", "tag", "a"), ("s", "pair", "other", "none")), words_over(("a", "b"), 3))
        self.check_words((("s", "pair", "none", "none"),), words_over(("none", "s"), 3))

    def test_names_that_are_words_of_the_language(self):
        rules = (("if", "pair", "fun", "then"), ("fun", "tag", "if"), ("then", "tag", "else"), ("then", "pair", "not", "not"), ("not", "tag", "top"), ("if", "tag", "main"))
        self.assertGreater(self.check_words(rules, words_over(("if", "else", "top", "main"), 3))[True], 2)
        rules = (("main", "pair", "ending", "derives"), ("ending", "tag", "a"), ("derives", "tag", "b"), ("derives", "pair", "splits", "main"), ("splits", "tag", "a"))
        self.check_words(rules, words_over(("a", "b"), 4))
        self.check_words((("tag", "pair", "pair", "tag"), ("pair", "tag", "tag"), ("tag", "tag", "pair")), words_over(("tag", "pair"), 4))

    def test_rules_that_come_twice(self):
        rules = (("s", "pair", "s", "t"), ("s", "pair", "s", "t"), ("s", "tag", "a"), ("s", "tag", "a"), ("t", "tag", "b"), ("t", "tag", "b"))
        self.check_words(rules, words_over(("a", "b"), 4))

    def test_names_of_eight_letters(self):
        self.check_words((("abcdefgh", "pair", "abcdefgi", "abcdefgh"), ("abcdefgi", "tag", "abcdefgh"), ("abcdefgh", "tag", "b")), words_over(("abcdefgh", "b"), 4))

    def test_random_rules(self):
        source = random.Random(619)
        found = {True: 0, False: 0}
        for size in range(150):
            names = ("s", "t", "if", "u")[:1 + size % 4]
            rules = []
            for _ in range(1 + size % 6):
                if source.random() < 0.45:
                    rules.append((source.choice(names), "tag", source.choice(("a", "b"))))
                else:
                    rules.append((source.choice(names), "pair", source.choice(names), source.choice(names)))
            words = source.sample(words_over(("a", "b"), 4), 12)
            for word, many in self.check_words(tuple(rules), words).items():
                found[word] += many
        self.assertGreater(found[True], 150)

    def test_the_limits(self):
        for rules in ((("s", "pair", "s", "s"),) * 3 + (("s", "tag", "a"),) * 3, (("s", "pair", "s", "s"),) * 6, (("s", "pair", "s", "t"), ("s", "pair", "t", "s"), ("t", "pair", "s", "s"),
                      ("t", "pair", "t", "t"), ("s", "tag", "a"), ("t", "tag", "b"))):
            self.check_words(rules, list(itertools.product(("a", "b"), repeat=4)))

    def test_errors(self):
        good = ("s", "tag", "a")
        for rule in (("s", "tag"), ("s", "tag", "a", "b"), ("s", "pair", "s"), ("s", "pair", "s", "s", "s"), ("s", "pair"), ("s",), (), ("s", "Tag", "a"), ("s", "triple", "a"), ("s", "tags", "a", "b"),
                     ("S", "tag", "a"), ("", "tag", "a"), ("abcdefghi", "tag", "a"), ("s1", "tag", "a"), ("s", "tag", "A"), ("s", "tag", ""), ("s", "tag", "abcdefghi"), ("s", "pair", "S", "s"),
                     ("s", "pair", "s", "S"), ("s", "pair", "s", ""), ("s", "pair", "abcdefghi", "s"), (1, "tag", "a"), ("s", "tag", 1), ("s", "tag", None), ("s", None, "a"), ("s", ("tag",), "a"),
                     (("s",), "tag", "a"), ("s", "tag", ("a",)), ["s", "tag", "a"], "s", None, 1, ("tag", "s", "a"), ("s", "pair", None, "s"), ("s", "pair", "s", 1), {"s": 1}):
            for rules in ((rule,), (good, rule), (rule, good)):
                check_raises(self, "BadRules", rules, grammar_program, rules)
        for rules in ((), [], [good], None, good, "s", 0, {}, {"s": good}):
            check_raises(self, "BadRules", rules, grammar_program, rules)
        for thing in ODD_VALUES:
            check_raises(self, "BadRules", thing, grammar_program, thing)
        rules = (("s", "pair", "s", "t"), ("t", "tag", "b"))
        for thing in changed(rules, [*ODD_TAGS, good, (), "pair", "tag"]):
            if not isinstance(thing, tuple) or not thing or not all(self.is_rule(item) for item in thing):
                check_raises(self, "BadRules", thing, grammar_program, thing)
            else:
                check_program_limits(self, grammar_program(thing))

    def is_rule(self, thing):
        return is_word_by_words(thing) and (len(thing) == 3 and thing[1] == "tag" or len(thing) == 4 and thing[1] == "pair")


class Reach(Shelf):
    def check_words(self, ties, words):
        return self.check(reach_program(ties), [spine(word) for word in words], lambda tree: reaches(ties, word_of(tree)))

    def test_one_tie(self):
        words = words_over(("a", "b"), 4)[1:]
        found = self.check_words((("a", "b"),), words)
        self.assertEqual(found[False], len([word for word in words if (word[0], word[-1]) == ("b", "a")]))
        self.assertEqual(self.check_words((("a", "a"),), words_over(("a",), 6)[1:]), {True: 6, False: 0})

    def test_a_tag_reaches_itself(self):
        self.check_words((("a", "b"), ("c", "b")), [("a",), ("b",), ("c",), ("b", "b"), ("b", "a", "b"), ("c", "a", "c"), ("c", "c", "c", "c", "c", "c")])

    def test_ties_that_lead_on(self):
        ties = (("a", "b"), ("b", "c"), ("c", "d"), ("d", "e"), ("e", "f"))
        tags = ("a", "b", "c", "d", "e", "f")
        self.assertEqual(self.check_words(ties, [tags]), {True: 1, False: 0})
        self.check_words(ties, [tags[::-1], ("a", "e", "d", "c", "b", "f"), ("a", "c", "b", "d"), ("a", "c", "d"), ("a", "b", "d"), ("b", "a", "c"), ("f", "b", "c", "d", "e", "a")])
        for word in itertools.permutations(tags, 4):
            self.assertIs(answer(reach_program(ties), spine(word), MAIN), reaches(ties, word))

    def test_only_through_tags_that_the_word_has(self):
        ties = (("a", "b"), ("b", "c"))
        self.assertEqual(self.check_words(ties, [("a", "c")]), {True: 0, False: 1})
        self.assertEqual(self.check_words(ties, [("a", "b", "c")]), {True: 1, False: 0})
        self.assertEqual(self.check_words(ties, [("a", "b", "b", "c"), ("a", "a", "b", "c", "c", "c")]), {True: 2, False: 0})

    def test_rings_of_ties(self):
        ties = (("a", "b"), ("b", "a"), ("b", "b"), ("c", "a"), ("c", "c"))
        self.check_words(ties, words_over(("a", "b", "c"), 4)[1:])

    def test_tags_that_are_words_of_the_language(self):
        ties = (("else", "if"), ("if", "then"), ("then", "else"))
        self.check_words(ties, words_over(("else", "if", "then"), 3)[1:])

    def test_no_ties(self):
        # No word has all its tags in them.
        check_program_limits(self, reach_program(()))

    def test_random_ties(self):
        source = random.Random(631)
        found = {True: 0, False: 0}
        for size in range(120):
            tags = ("a", "b", "c", "d", "e")[:2 + size % 4]
            ties = tuple(sorted({(source.choice(tags), source.choice(tags)) for _ in range(1 + size % 8)}))
            known = sorted({tag for tie in ties for tag in tie})
            words = [tuple(source.choice(known) for _ in range(1 + source.randrange(6))) for _ in range(8)]
            for answered, many in self.check_words(ties, words).items():
                found[answered] += many
        self.assertGreater(min(found.values()), 100)

    def test_the_limits(self):
        tags = ("a", "b", "c", "d", "e", "f")
        ring = tuple(sorted(zip(tags, tags[1:] + tags[:1]))) + (("f", "b"), ("f", "f"))
        unlike = tuple(sorted((one, other) for one, other in zip("abcdefgh", "ijklmnop")))
        for ties in (ring, unlike, tuple(sorted((one, "z") for one in "abcdefgh"))):
            source = random.Random(641)
            known = sorted({tag for tie in ties for tag in tie})
            words = [tuple(source.sample(known, 6)) for _ in range(15)] if len(known) >= 6 else []
            self.check_words(ties, words + [tuple(known[:6]), tuple(known[:6][::-1]), (known[0],) * 6])

    def test_errors(self):
        for ties in ((("b", "a"), ("a", "b")), (("a", "b"), ("a", "b")), (("a", "b"), ("a", "a")), [("a", "b")], (["a", "b"],), (("a",),), (("a", "b", "c"),), ((),), ("ab",), ("a", "b"), (("A", "b"),),
                     (("a", "B"),), (("", "b"),), (("a", "abcdefghi"),), ((1, "b"),), (("a", None),), ((("a",), "b"),), None, 0, "", {}, {"a": "b"}, (("a", "b"), None), (("a", "b"), ("c",)),
                     (("a", "b"), ("b", "c"), ("b", "b")), (("a", True),)):
            check_raises(self, "BadTies", ties, reach_program, ties)
        for thing in ODD_VALUES:
            if thing != ():
                check_raises(self, "BadTies", thing, reach_program, thing)
        for thing in changed((("a", "b"), ("b", "a")), [*ODD_TAGS, (), ("a", "b")]):
            right = isinstance(thing, tuple) and all(is_word_by_words(tie) and len(tie) == 2 for tie in thing)
            if not right or list(thing) != sorted(set(thing)):
                check_raises(self, "BadTies", thing, reach_program, thing)
            else:
                check_program_limits(self, reach_program(thing))


class Games(Shelf):
    TAGS = ("and", "no", "or", "yes")

    def check_trees(self, trees, limits=True):
        return self.check(game_program(), trees, value_of, limits)

    def test_small_trees(self):
        found = self.check_trees([tree for nodes in range(4) for tree in trees_over(self.TAGS, nodes)])
        self.assertGreater(min(found.values()), 50)
        self.assertIs(answer(game_program(), None, MAIN), False)

    def test_parts_of_yes_and_no_do_not_matter(self):
        yes, no = ("yes", None, None), ("no", None, None)
        for part in (yes, no, None):
            for other in (yes, no, None):
                self.assertEqual(self.check_trees([("yes", part, other)]), {True: 1, False: 0})
                self.assertEqual(self.check_trees([("no", part, other)]), {True: 0, False: 1})

    def test_the_limits(self):
        source = random.Random(643)
        trees = [random_tree(source, 20, ("and", "or", "or", "yes", "yes", "no")) for _ in range(60)]
        trees += [chain("l" * 20, "or"), chain("r" * 20, "and")]
        full = ("yes", None, None)
        for tag in ("or", "and", "or"):
            full = (tag, full, full)
        found = self.check_trees(trees + [full])
        self.assertGreater(min(found.values()), 10)
        for tag in ("or", "and"):
            tree = ("yes", None, None)
            for _ in range(9):
                tree = (tag, (("yes" if tag == "and" else "no"), None, None), tree)
            self.assertEqual(self.check_trees([tree]), {True: 1, False: 0})
