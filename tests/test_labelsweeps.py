"""Tests of parkedrows.labelsweeps: [15], [55]."""

import itertools
import unittest

from parkedrows.errors import InvalidLabelled, InvalidSweep
from parkedrows.labelsweeps import is_sweep, labelled_by_sweep, sweep_cells, sweep_of
from tests.helper import NO_TUPLES, check_new, check_wrong, labelled_tried, paths_tried, run_examples
from tests.test_labels import NO_LABELLED, X
from tests.test_sweeps import order_tried, sweep_tried

EXAMPLES = """
    >>> [sweep_of(labelled_of(W)), sweep_cells(sweep_of(labelled_of(W))), sweep_of(labelled_of(U)), sweep_cells(sweep_of(labelled_of(U))), is_sweep(((0, 0), (1, 0))), is_sweep(((0, 1), (1, 0))), labelled_by_sweep(((0, 0, 1, 2), (1, 2, 3, 0))) == labelled_of(W)]
    [((0, 0, 1, 2), (1, 2, 3, 0)), [(1, 2)], ((0, 1, 2), (0, 1, 2)), [(0, 1), (0, 2), (1, 2)], False, True, True]
"""

NO_SWEEPS = NO_TUPLES + [(), ((0,),), ((0,), (0,), (0,)), [(0,), (0,)], ((0,), [0]), ([0], (0,)), ((0,), 0), ((), ()),
                         ((0,), (1,)), ((0,), (False,)), ((False,), (0,)), ((0,), ()), ((0,), (0, 1)), ((0, 1), (0,)),
                         ((0, 0), (1, 0)), ((0, 0), (0, 0)), ((0, 1), (1, 2)), ((0, 1), (True, 0)), ((0, 2), (0, 1)),
                         ((1, 0), (0, 1)), ((0, 0, 0), (0, 2, 1)), ((0,) * 13, tuple(range(13))), ((0,), None),
                         (None, (0,)), ((0, 1), "01"), ((0, 1), (10 ** 119, 0)), ((0, 1), ((0,), (1,))),
                         ((0,) * 500, tuple(range(500)))]


class TestLabelSweeps(unittest.TestCase):
    def test_examples(self):
        run_examples(self, EXAMPLES, "labels labelsweeps")

    def test_there_and_back(self):
        for levels in (1, 2, 3, 4):
            found = {}
            for labelled in [pair for path in paths_tried(levels) for pair in labelled_tried(path)]:
                path, word = labelled
                sweep = sweep_tried(path), tuple(word[level] for level in order_tried(path))
                self.assertEqual(sweep, sweep_of(labelled))
                self.assertEqual(labelled, labelled_by_sweep(sweep))
                found[sweep] = labelled
            for path in paths_tried(levels):
                for word in itertools.permutations(range(levels)):
                    self.assertIs((path, word) in found, is_sweep((path, word)), (path, word))
                    if (path, word) not in found:
                        self.assertRaises(InvalidSweep, labelled_by_sweep, (path, word))
            self.assertEqual((levels + 1) ** (levels - 1), len(found))

    def test_which_pairs_are_sweeps(self):
        for levels in (1, 2, 3):
            right = [sweep_of(pair) for path in paths_tried(levels) for pair in labelled_tried(path)]
            for heights in itertools.product(range(-1, levels + 1), repeat=levels):
                for word in itertools.product(range(-1, levels + 1), repeat=levels):
                    self.assertIs((heights, word) in right, is_sweep((heights, word)), (heights, word))

    def test_cells_that_count(self):
        for levels in (1, 2, 3, 4):
            for labelled in [pair for path in paths_tried(levels) for pair in labelled_tried(path)]:
                path, word = sweep = sweep_of(labelled)
                cells = [(i, j) for i in range(levels) for j in range(levels) if j - path[j] <= i < j]
                self.assertEqual([(i, j) for i, j in cells if word[i] < word[j]], sweep_cells(sweep))

    def test_one_and_twelve_levels(self):
        one = ((0,), (0,))
        self.assertEqual([one, True, one, []], [sweep_of(one), is_sweep(one), labelled_by_sweep(one), sweep_cells(one)])
        path, word = sweep_of(X)
        self.assertEqual((1, 0, 5, 8, 4, 3, 6, 9, 2, 7, 11, 10), word)
        self.assertEqual((0, 1, 2, 3, 3, 4, 3, 2, 3, 2, 0, 1), path)
        self.assertEqual(X, labelled_by_sweep((path, word)))
        self.assertEqual([(0, 2), (0, 3), (1, 2), (1, 3), (1, 4), (1, 5), (2, 3), (4, 6), (5, 6), (5, 7), (6, 7),
                          (8, 9)], sweep_cells((path, word)))
        self.assertTrue(is_sweep((tuple(range(12)), tuple(range(11, -1, -1)))))
        self.assertFalse(is_sweep(((0,) * 12, tuple(range(11, -1, -1)))))

    def test_any_value(self):
        for value in NO_SWEEPS:
            self.assertIs(False, is_sweep(value), value)

    def test_wrong_arguments(self):
        check_wrong(self, [(sweep_of, [((0, 1), (0, 1))], [(InvalidLabelled, NO_LABELLED)])])
        check_wrong(self, [(function, [((0, 1), (1, 0))], [(InvalidSweep, NO_SWEEPS)])
                           for function in (labelled_by_sweep, sweep_cells)])

    def test_new_lists(self):
        check_new(self, [(sweep_cells, [sweep_of(X)])])
