"""The examples of the document, word for word."""

import os
import unittest

from tests.helpers import check_examples

TREES = """
>>> from eyesonly.trees import is_place, is_tree, led, next_place, part_at, places, tree_read, tree_written
>>> T = ('a', ('b', None, None), None)
>>> [is_tree(('a', None)), places(T), is_place(T, 'rl'), part_at(T, 'l'), led(T, 'r', 'left'), led(T, 'lr', 'up'), next_place(T, 'lr'), next_place(T, 'r')]
[False, ('', 'l', 'll', 'lr', 'r'), False, ('b', None, None), 'r', 'l', 'r', None]
>>> [tree_written(T), tree_read('a(b,-)') == T, tree_written(None)]
['a(b,-)', True, '-']
>>> tree_read('a(-,-)')
raises BadText(at=4)
>>> tree_read('a(b')
raises BadText(at=3)
"""

TEXTS = """
>>> from eyesonly.terms import is_name, is_script, is_term
>>> from eyesonly.texts import read, written
>>> ALIKE = 'fun alike(x, y): truth = if empty(x) or empty(y) then empty(x) and empty(y) else has(x, a) and has(y, a) and alike(left(x), left(y)) and alike(right(x), right(y))'
>>> [is_name('top'), is_term(('has', ('top',), 'if')), is_script(()), written(read(ALIKE)) == ALIKE, read('fun f ( x ):place=(up((x)))')]
[False, True, True, True, (('fun', 'f', 'place', ('x',), ('up', ('name', 'x'))),)]
>>> written((('fun', 'g', 'truth', (), ('not', ('and', ('yes',), ('or', ('no',), ('call', 'g', ()))))),))
'fun g(): truth = not (yes and (no or g()))'
>>> read('fun f(x): truth = empty(x')
raises BadText(at=11)
>>> read('fun f(x): truth = x y')
raises BadText(at=9)
"""

KINDS = """
>>> from eyesonly.kinds import has_choice, is_program, judge_script, script_holds
>>> from eyesonly.texts import read
>>> GOOD = read('fun leaf(x): truth = not empty(x) and empty(left(x)) and empty(right(x)) fun some(x): place = if leaf(x) then x else either(some(left(x)), some(right(x)))')
>>> BAD = read('fun f(x): place = g(y) fun g(x, x): truth = left(x)')
>>> [judge_script(GOOD), is_program(BAD), has_choice(GOOD), script_holds(BAD, ('unknown', (0, 4, 2, 0))), script_holds(BAD, ('count', (0, 4))), script_holds(BAD, ('kind', (0, 4))), script_holds(BAD, ('twice', (1, 3, 1))), script_holds(BAD, ('kind', (1, 4)))]
[('fit',), False, True, True, True, True, True, True]
"""

MEANING = """
>>> from eyesonly.meaning import is_call, run
>>> from eyesonly.texts import read
>>> T = ('a', ('b', None, None), None)
>>> P = read('fun leaf(x): truth = not empty(x) and empty(left(x)) and empty(right(x)) fun some(x): place = if leaf(x) then x else either(some(left(x)), some(right(x))) fun ever(x): truth = ever(up(x))')
>>> [run(P, T, ('leaf', ('l',)), '', 50), run(P, T, ('some', ('',)), 'l', 50), run(P, T, ('some', ('',)), '', 50), run(P, T, ('ever', ('l',)), '', 50), is_call(P, T, ('leaf', ('rr',)))]
[('outcome', True, 11), ('outcome', 'l', 30), ('open', 12), ('cut',), False]
"""

PAPERS = """
>>> from eyesonly.papers import end_holds, judge_end, judge_outcome, outcome_holds
>>> from eyesonly.tables import answer, lot, reached
>>> from eyesonly.texts import read
>>> T = ('a', ('b', None, None), None)
>>> P = read('fun leaf(x): truth = not empty(x) and empty(left(x)) and empty(right(x)) fun some(x): place = if leaf(x) then x else either(some(left(x)), some(right(x)))')
>>> [lot(P, T, ('some', ('',))), lot(P, T, ('some', ('r',))), reached(P, T, ('some', ('',)))]
[('l',), (), (('leaf', ('',)), ('leaf', ('l',)), ('leaf', ('r',)), ('some', ('',)), ('some', ('l',)), ('some', ('r',)))]
>>> [judge_outcome(P, T, ('some', ('r',)), 'l')[0], outcome_holds(P, T, ('leaf', ('l',)), True, ('table', ((('leaf', ('l',)), True, 0),))), outcome_holds(P, T, ('some', ('r',)), 'l', ('closed', ((('some', ('r',)), ()),)))]
['closed', True, False]
>>> E = read('fun ever(x): truth = ever(up(x)) fun here(x): truth = empty(x)')
>>> [answer(E, T, ('ever', ('l',))), answer(E, T, ('here', ('r',))), judge_end(E, T, ('ever', ('',)))[0], end_holds(E, T, ('ever', ('l',)), ('endless', (), (('ever', ('l',)), ('ever', ('',)))))]
[None, True, 'endless', True]
"""

BOUNDS = """
>>> from eyesonly.bounds import bound, is_poly, value_at, width
>>> from eyesonly.texts import read
>>> P = read('fun some(x): truth = if same(x, top) then has(x, a) else some(up(x)) fun pair(x, y): place = x fun other(x, y): place = y')
>>> [width(P), bound(P), value_at(bound(P), 5), is_poly(((1, 0),)), value_at((), 7)]
[((1, 1), (2, 2)), ((1, 18), (2, 2)), 140, False, 0]
"""

CODE = """
>>> from eyesonly.code import code_holds, is_accepted, judge_code, read_by, set_by
>>> from eyesonly.codebounds import code_bound
>>> LAST = (("place", 1, 3, (("right", 1, 0), ("empty", 2, 1), ("unless", 2, 4), ("give", 0), ("call", 1, 0, (1,)), ("give", 1))),)
>>> judge_code(LAST)
('accepted', ((('place', None, None), ('place', 'place', None), ('place', 'place', 'truth'), ('place', 'place', 'truth'), ('place', 'place', 'truth'), ('place', 'place', 'truth')),))
>>> [code_bound(LAST), read_by(("same", 4, 2, 1)), set_by(("unless", 0, 3)), is_accepted((("truth", 0, 1, (("yes", 0),)),))]
[((1, 12),), (2, 1), None, False]
>>> [judge_code((("truth", 0, 1, (("yes", 0),)),)), judge_code((("place", 1, 1, (("skip", 0), ("give", 0))),)), judge_code((("place", 1, 2, (("give", 1),)),)), judge_code((("truth", 1, 1, (("give", 0),)),))]
[('refused', 0, 0, 'end'), ('refused', 0, 0, 'number'), ('refused', 0, 0, 'unset'), ('refused', 0, 0, 'kind')]
"""

MACHINES = """
>>> from eyesonly.machines import run_plain
>>> from eyesonly.tabling import calls_met, run_holds, run_table
>>> LAST = (("place", 1, 3, (("right", 1, 0), ("empty", 2, 1), ("unless", 2, 4), ("give", 0), ("call", 1, 0, (1,)), ("give", 1))),)
>>> WORD = ("a", None, ("b", None, None))
>>> [run_plain(LAST, WORD, 0, ("",), 100), run_plain(LAST, WORD, 0, ("",), 8), run_table(LAST, WORD, 0, ("",)), calls_met(LAST, WORD, 0, ("",))]
[('given', 'r', 9), ('out',), ('given', 'r', 13), ((0, ('',)), (0, ('r',)))]
>>> RING = (("truth", 1, 2, (("up", 1, 0), ("call", 1, 0, (1,)), ("give", 1))),)
>>> [run_table(RING, WORD, 0, ("r",)), run_holds(RING, WORD, 0, ("r",), ("endless", (), ((0, ("r",)), (0, ("",))))), run_holds(RING, WORD, 0, ("r",), ("endless", (), ((0, ("",)),)))]
[('endless', ((0, ('r',)), (0, ('',))), 4), True, False]
"""

COMPILER = """
>>> from eyesonly.compiler import code_map, compiled
>>> LAST = (("fun", "last", "place", ("x",), ("if", ("empty", ("right", ("name", "x"))), ("name", "x"), ("call", "last", (("right", ("name", "x")),)))),)
>>> compiled(LAST)
(('place', 1, 2, (('move', 1, 0), ('right', 1, 1), ('empty', 1, 1), ('unless', 1, 6), ('move', 1, 0), ('skip', 9), ('move', 1, 0), ('right', 1, 1), ('call', 1, 0, (1,)), ('give', 1))),)
>>> code_map(LAST)
(((1, 1, 1), (1, 1), (1,), (), (2,), (), (3, 2, 0, 1), (3, 2, 0), (3,), ()),)
"""

LAST_AND_HEADS = """
>>> from eyesonly.heads import heads_program, is_machine, run_heads
>>> from eyesonly.last import judge_last, run_last
>>> LAST = (("fun", "last", "place", ("x",), ("if", ("empty", ("right", ("name", "x"))), ("name", "x"), ("call", "last", (("right", ("name", "x")),)))),)
>>> ROUND = (("fun", "round", "truth", ("x",), ("call", "round", (("up", ("name", "x")),))),)
>>> WITHIN = (("fun", "f", "truth", ("x",), ("not", ("call", "f", (("name", "x"),)))),)
>>> WORD = ("a", None, ("b", None, None))
>>> [judge_last(LAST), judge_last(WITHIN), run_last(LAST, WORD, "last", ("",)), run_last(ROUND, WORD, "round", ("r",))]
[('last',), ('within', 'f', (1,)), ('given', 'r', 2), ('endless', ('round', ('',)), 1)]
>>> FINDB = ("heads", 1, (("go", ("empty", 0), ("no", ()), ("look", ())), ("look", ("has", 0, "b"), ("yes", ()), ("go", ((0, "right"),)))))
>>> [is_machine(FINDB), run_heads(FINDB, WORD, ("",)), run_heads(FINDB, ("a", None, None), ("",)), judge_last(heads_program(FINDB))]
[True, ('given', True, 4), ('given', False, 3), ('last',)]
"""

CLOCKED = """
>>> from eyesonly.clocked import is_tape, tape_outcome, tape_standing
>>> from eyesonly.made import made
>>> from eyesonly.tables import answer
>>> SEEK = ('tape', ('b',), 3, (((0, 0, 1), (1, 1, 0), (0, 2, 1)),))
>>> T = ('a', ('b', None, None), None)
>>> [is_tape(SEEK), tape_standing(SEEK, T, 1, 1), tape_standing(SEEK, T, 1, 4), tape_outcome(SEEK, T, 1), tape_outcome(SEEK, ('a', None, None), 1)]
[True, (0, 1, (2, 1, 0, 0, 0)), (1, 1, (2, 1, 0, 0, 0)), True, False]
>>> [answer(made(SEEK, 1), T, ('main', ())), answer(made(SEEK, 1), ('a', None, None), ('main', ()))]
[True, False]
"""

QUERIES = """
>>> from eyesonly.queries import found
>>> from eyesonly.shelf import spine, word_of
>>> [spine(("a", "b")), word_of(("a", None, ("b", None, None))), word_of(("a", ("b", None, None), None))]
[('a', None, ('b', None, None)), ('a', 'b'), None]
>>> HASB = (("fun", "hasb", "truth", ("x",), ("has", ("name", "x"), "b")),)
>>> found(HASB, spine(("a", "b", "b")), "hasb")
('r', 'rr')
"""

SIMPLIFY = r"""
>>> from eyesonly.simplify import after_step, is_step, simplified, steps_from
>>> from eyesonly.texts import read, written
>>> P = read('fun f(x, y): truth = same(x, y) or has(up(top), a) fun g(x): truth = if not not yes then f(x, x) else no')
>>> [steps_from(P), is_step(P, ('twice', (1, 4)))]
[(('inline', (1, 4, 2)), ('known', (1, 4, 1)), ('known', (1, 4, 1, 1)), ('lift', (0, 4, 2, 1)), ('twice', (1, 4, 1))), False]
>>> [written(after_step(P, ('inline', (1, 4, 2)))), written(simplified(P))]
['fun f(x, y): truth = same(x, y) or has(up(top), a)\nfun g(x): truth = if not not yes then same(x, x) or has(up(top), a) else no', 'fun f(x, y): truth = same(x, y) or has(top, a)\nfun g(x): truth = yes or has(top, a)']
"""


class Examples(unittest.TestCase):
    def test_trees(self):
        check_examples(self, TREES)

    def test_terms_and_texts(self):
        check_examples(self, TEXTS)

    def test_kinds(self):
        check_examples(self, KINDS)

    def test_meaning(self):
        check_examples(self, MEANING)

    def test_tables_and_papers(self):
        check_examples(self, PAPERS)

    def test_bounds(self):
        check_examples(self, BOUNDS)

    def test_code_and_codebounds(self):
        check_examples(self, CODE)

    def test_machines_and_tabling(self):
        check_examples(self, MACHINES)

    def test_compiler(self):
        check_examples(self, COMPILER)

    def test_last_and_heads(self):
        check_examples(self, LAST_AND_HEADS)

    def test_clocked_and_made(self):
        check_examples(self, CLOCKED)

    def test_shelf_and_queries(self):
        check_examples(self, QUERIES)

    def test_simplify(self):
        check_examples(self, SIMPLIFY)

    def test_readme(self):
        folder = os.path.dirname(os.path.dirname(os.path.abspath(__file__)))
        with open(os.path.join(folder, "README.md"), encoding="ascii") as file:
            blocks = file.read().split("```")[1::2]
        check_examples(self, "\n".join(block for block in blocks if ">>> " in block))
