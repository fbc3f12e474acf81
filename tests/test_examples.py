"""The examples of the document, word for word."""

import unittest

from tests.helpers import check_examples

TREES = """
>>> from eyesonly.trees import is_place, is_tree, led, next_place, part_at, places, tree_read, tree_written
>>> T = ('a', ('b', None, None), None)
>>> [is_tree(('a', None)), places(T), is_place(T, 'rl'), part_at(T, 'l'), led(T, 'r', 'left'), led(T, 'lr', 'up'), next_place(T, 'lr'), next_place(T, 'r')]
[False, ('', 'l', 'll', 'lr', 'r'), False, ('b', None, None), 'r', 'l', 'r', None]
>>> [tree_written(T), tree_read('a(b,-)') == T, tree_written(None)]
['a(b,-)', True, '-']
>>> tree_read('a(-,-)')
raises BadText(at=4)
>>> tree_read('a(b')
raises BadText(at=3)
"""


class Examples(unittest.TestCase):
    def test_trees(self):
        check_examples(self, TREES)
