"""Tests of parkedrows.trees: [7], [8], [50]."""

import itertools
import unittest

from parkedrows.errors import InvalidCode, InvalidCorner, InvalidTree
from parkedrows.trees import (above_of, children_of, code_of, is_tree, swung, tree_leaves, tree_of_code,
                              tree_overtakings)
from tests.helper import (NO_TUPLES, S, T, ancestors, check_new, check_wrong, few_trees, out_of, run_examples,
                          trees_walked)

EXAMPLES = """
    >>> [is_tree(T), is_tree((1, 0)), is_tree((2, 1)), is_tree(()), children_of(T, 0), children_of(S, 4), above_of(S, 1), tree_leaves(S), tree_overtakings(S), tree_overtakings(T)]
    [True, False, False, False, [2, 3], [1], [2, 4], [1, 3], [(2, 1), (4, 1)], [(2, 1)]]
    >>> [code_of(T), code_of(S), tree_of_code((2, 0)) == T, tree_of_code(()), swung(T, 3, 1), swung(S, 4, 0)]
    [(2, 0), (4, 0, 2), True, (0,), (2, 0, 1), (4, 0, 0, 0)]
"""

NO_TREES = NO_TUPLES + [(), (1,), (2,), (1, 0), (2, 1), (0, 3), (2, 3, 1), (0, 3, 2), (0,) * 13, [0, 1],
                        (2, 3, 4, 5, 6, 7, 8, 9, 10, 11, 12, 1)]
NO_CODES = NO_TUPLES + [(3,), (0, 4), (-1,), (0,) * 12, (13,) * 11, [1], []]


class TestTrees(unittest.TestCase):
    def test_examples(self):
        run_examples(self, EXAMPLES, "trees")

    def test_which_tuples_are_trees(self):
        for corners in (1, 2, 3, 4):
            trees = trees_walked(corners)
            self.assertEqual((corners + 1) ** (corners - 1), len(trees))
            for parents in itertools.product(range(-1, corners + 2), repeat=corners):
                self.assertIs(parents in trees, is_tree(parents), parents)

    def test_what_hangs_where(self):
        for tree in few_trees():
            corners = range(1, len(tree) + 1)
            for corner in corners:
                self.assertEqual(sorted(ancestors(tree, corner)), above_of(tree, corner))
            for corner in range(len(tree) + 1):
                self.assertEqual([child for child, parent in enumerate(tree, 1) if parent == corner],
                                 children_of(tree, corner))
            self.assertEqual([corner for corner in corners if tree.count(corner) == 0], tree_leaves(tree))
            self.assertEqual(sorted((one, other) for other in corners for one in ancestors(tree, other) if one > other),
                             tree_overtakings(tree))

    def test_codes_there_and_back(self):
        for corners in (1, 2, 3, 4):
            codes = []
            for tree in trees_walked(corners):
                left = dict(enumerate(tree, 1))
                code = []
                while len(left) > 1:
                    code.append(left.pop(min(set(left) - set(left.values()))))
                codes.append(code_of(tree))
                self.assertEqual(tuple(code), code_of(tree))
                self.assertEqual(tree, tree_of_code(tuple(code)))
            self.assertEqual(sorted(itertools.product(range(corners + 1), repeat=corners - 1)), sorted(codes))

    def test_swung(self):
        for tree in few_trees():
            for corner in range(1, len(tree) + 1):
                for other in range(len(tree) + 1):
                    hung = tree[:corner - 1] + (other,) + tree[corner:]
                    if all(ancestors(hung, some) is not None for some in range(1, len(tree) + 1)):
                        self.assertEqual(hung, swung(tree, corner, other))
                    else:
                        self.assertRaises(InvalidCorner, swung, tree, corner, other)

    def test_one_corner(self):
        self.assertEqual([[1], [], [], [1], [], (), (0,)],
                         [children_of((0,), 0), children_of((0,), 1), above_of((0,), 1), tree_leaves((0,)),
                          tree_overtakings((0,)), code_of((0,)), swung((0,), 1, 0)])

    def test_twelve_corners(self):
        down = tuple(range(12))
        up = tuple(range(2, 13)) + (0,)
        flat = (0,) * 12
        self.assertEqual([[1], [12], [], list(range(1, 12)), [12], []],
                         [children_of(down, 0), children_of(down, 11), children_of(down, 12), above_of(down, 12),
                          tree_leaves(down), tree_overtakings(down)])
        self.assertEqual([[12], list(range(2, 13)), [1]], [children_of(up, 0), above_of(up, 1), tree_leaves(up)])
        self.assertEqual([(one, other) for one in range(1, 13) for other in range(1, one)], tree_overtakings(up))
        self.assertEqual([(0,) * 11, tuple(range(11, 0, -1)), tuple(range(2, 13))],
                         [code_of(flat), code_of(down), code_of(up)])
        self.assertEqual([flat, down, up], [tree_of_code(code_of(tree)) for tree in (flat, down, up)])
        self.assertEqual(down[:6] + (0,) + down[7:], swung(down, 7, 0))
        self.assertEqual((0,) * 12, tree_of_code((0,) * 11))
        self.assertEqual((12, 12) + (12,) * 9 + (0,), tree_of_code((12,) * 11))

    def test_any_value(self):
        for value in NO_TREES:
            self.assertIs(False, is_tree(value), value)

    def test_wrong_arguments(self):
        tree = [(InvalidTree, NO_TREES)]
        check_wrong(self, [(function, [T], tree) for function in (tree_leaves, tree_overtakings, code_of)])
        check_wrong(self, [(children_of, [S, 0], tree + [(InvalidCorner, out_of(0, 4))]),
                           (children_of, [S, 4], tree + [(InvalidCorner, [5])]),
                           (above_of, [S, 1], tree + [(InvalidCorner, out_of(1, 4))]),
                           (above_of, [S, 4], tree + [(InvalidCorner, [0])]),
                           (tree_of_code, [(2, 0)], [(InvalidCode, NO_CODES)])])

    def test_wrong_swings(self):
        tree, corner = (InvalidTree, NO_TREES), (InvalidCorner, out_of(1, 4))
        # In S, the corner 4 is below 2, and 1 below both.
        check_wrong(self, [(swung, [S, 2, 0], [tree, corner, (InvalidCorner, out_of(0, 4) + [2, 4, 1])]),
                           (swung, [S, 4, 3], [tree, corner, (InvalidCorner, out_of(0, 4) + [4, 1])]),
                           (swung, [S, 1, 4], [tree, corner, (InvalidCorner, out_of(0, 4) + [1])])])

    def test_new_lists(self):
        check_new(self, [(children_of, [T, 0]), (above_of, [S, 1]), (tree_leaves, [S]), (tree_overtakings, [S])])
