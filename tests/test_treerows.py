"""Tests of parkedrows.treerows: [9], [51]."""

import unittest

from parkedrows.errors import InvalidRow, InvalidTree
from parkedrows.treerows import queue_of, row_by_queue, row_by_stack, stack_of, tree_by_queue, tree_by_stack
from tests.helper import P, T, check_wrong, rows_driven, run_examples, trees_walked
from tests.test_rows import NO_ROWS
from tests.test_trees import NO_TREES

EXAMPLES = """
    >>> [tree_by_queue(P) == T, tree_by_stack(P) == T, tree_by_queue(W), tree_by_stack(W) == S, tree_by_queue(L), row_by_queue(T) == P, row_by_stack(S) == W, row_by_queue(S), queue_of(S), stack_of(S)]
    [True, True, (3, 0, 0, 2), True, (0, 0, 0), True, True, (3, 0, 0, 1), (0, 2, 3, 4, 1), (0, 2, 4, 1, 3)]
"""


def tree_grown(row, is_stack):
    """The pair of the tree of a row and of its line, each corner in the line told its children in turn."""
    line, parents = [0], {}
    for place in range(len(row)):
        at = place + 1 if is_stack else len(line)
        for car, wish in enumerate(row):
            if wish == place:
                parents[car + 1] = line[place]
                line.insert(at, car + 1)
                at += 1
    return tuple(parents[corner] for corner in range(1, len(row) + 1)), tuple(line)


class TestTreeRows(unittest.TestCase):
    def test_examples(self):
        run_examples(self, EXAMPLES, "treerows")

    def test_there_and_back(self):
        for cars in (1, 2, 3, 4):
            for is_stack, tree_of, row_of, line_of in ((False, tree_by_queue, row_by_queue, queue_of),
                                                       (True, tree_by_stack, row_by_stack, stack_of)):
                trees = []
                for row in rows_driven(cars):
                    tree, line = tree_grown(row, is_stack)
                    self.assertEqual(tree, tree_of(row))
                    self.assertEqual(line, line_of(tree))
                    self.assertEqual(row, row_of(tree))
                    trees.append(tree)
                self.assertEqual(trees_walked(cars), sorted(trees))

    def test_one_and_twelve(self):
        self.assertEqual([(0,), (0,), (0,), (0,), (0, 1), (0, 1)],
                         [ask((0,)) for ask in (tree_by_queue, tree_by_stack, row_by_queue, row_by_stack, queue_of,
                                                stack_of)])
        row = (3, 3, 0, 9, 0, 3, 1, 11, 0, 8, 8, 2)
        for is_stack, tree_of, row_of, line_of in ((False, tree_by_queue, row_by_queue, queue_of),
                                                   (True, tree_by_stack, row_by_stack, stack_of)):
            tree, line = tree_grown(row, is_stack)
            self.assertEqual([tree, line, row], [tree_of(row), line_of(tree), row_of(tree)])
        self.assertEqual((9, 9, 0, 10, 0, 9, 3, 4, 0, 6, 6, 5), tree_by_queue(row))
        self.assertEqual(tuple(range(13)), queue_of((0,) * 12))
        self.assertEqual((0,) + tuple(range(12, 0, -1)), stack_of(tuple(range(2, 13)) + (0,)))

    def test_wrong_arguments(self):
        check_wrong(self, [(function, [P], [(InvalidRow, NO_ROWS)]) for function in (tree_by_queue, tree_by_stack)])
        check_wrong(self, [(function, [T], [(InvalidTree, NO_TREES)])
                           for function in (row_by_queue, row_by_stack, queue_of, stack_of)])
