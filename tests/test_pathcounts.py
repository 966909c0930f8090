"""Tests of parkedrows.pathcounts: [56]."""

import itertools
import unittest

from parkedrows.errors import InvalidCars, InvalidPath
from parkedrows.pathcounts import bounce_counts, difference_counts, joint_counts, meeting_counts, second_counts
from parkedrows.paths import all_paths, bounce
from tests.helper import (check_limits, check_new, check_wrong, few_paths, labelled_tried, out_of, paths_tried,
                          run_examples, tally)
from tests.test_labels import pairs_counting
from tests.test_paths import NO_PATHS

EXAMPLES = """
    >>> [joint_counts(2), meeting_counts(3), bounce_counts(3) == meeting_counts(3), second_counts((0, 0, 0)), second_counts((0, 1, 1)), difference_counts(2), difference_counts(3), sum(difference_counts(5))]
    [[(0, 0, 1), (0, 1, 1), (1, 0, 1)], [(0, 3, 1), (1, 1, 1), (1, 2, 1), (2, 1, 1), (3, 0, 1)], True, (1, 2, 2, 1), (2, 1), (1, 1, 1), (1, 2, 3, 4, 3, 2, 1), 1296]
"""


def triples(pairs):
    """The ascending list of all pairs, with how often each comes."""
    return sorted((one, other, many) for (one, other), many in tally(pairs).items())


def meetings(path):
    """How many pairs of levels meet."""
    return sum(1 for i, j in itertools.combinations(range(len(path)), 2) if path[i] - path[j] in (0, 1))


class TestPathCounts(unittest.TestCase):
    def test_examples(self):
        run_examples(self, EXAMPLES, "pathcounts")

    def test_joint_counts(self):
        for cars in (1, 2, 3, 4, 5):
            all_labelled = [pair for path in paths_tried(cars) for pair in labelled_tried(path)]
            self.assertEqual(triples((sum(path), len(pairs_counting(path, word))) for path, word in all_labelled),
                             joint_counts(cars))

    def test_counts_of_paths(self):
        for cars in (1, 2, 3, 4, 5, 6):
            paths = paths_tried(cars)
            self.assertEqual(triples((sum(path), meetings(path)) for path in paths), meeting_counts(cars))
            self.assertEqual(triples((sum(path), bounce(path)) for path in paths), bounce_counts(cars))

    def test_counts_of_paths_of_nine_levels(self):
        paths = all_paths(9)
        self.assertEqual(triples((sum(path), meetings(path)) for path in paths), meeting_counts(9))
        self.assertEqual(meeting_counts(9), bounce_counts(9))

    def test_second_counts(self):
        for path in few_paths(5):
            counts = tally(len(pairs_counting(path, word)) for _, word in labelled_tried(path))
            self.assertEqual(tuple(counts.get(count, 0) for count in range(max(counts) + 1)), second_counts(path))
        self.assertEqual((1,), second_counts((0, 1, 2, 3, 4, 5)))
        self.assertEqual((1, 5, 14, 29, 49, 71, 90, 101, 101, 90, 71, 49, 29, 14, 5, 1), second_counts((0,) * 6))

    def test_difference_counts(self):
        for cars in (1, 2, 3, 4, 5):
            all_labelled = [pair for path in paths_tried(cars) for pair in labelled_tried(path)]
            found = tally(len(pairs_counting(path, word)) - sum(path) for path, word in all_labelled)
            most = cars * (cars - 1) // 2
            self.assertEqual(tuple(found.get(more, 0) for more in range(-most, most + 1)), difference_counts(cars))

    def test_differences_of_twelve_cars(self):
        counts = difference_counts(12)
        self.assertEqual([133, 13 ** 11, (1, 11, 66), 1], [len(counts), sum(counts), counts[:3], counts[-1]])
        self.assertEqual(counts, counts[::-1])
        self.assertEqual(max(counts), counts[66])

    def test_wrong_arguments(self):
        check_wrong(self, [(function, [3], [(InvalidCars, out_of(1, 12))])
                           for function in (joint_counts, meeting_counts, bounce_counts, difference_counts)])
        check_wrong(self, [(second_counts, [(0, 1)], [(InvalidPath, NO_PATHS)])])

    def test_limits(self):
        check_limits(self, [(joint_counts, [5], [6], 5), (joint_counts, [1], [12], 5),
                            (meeting_counts, [9], [10], 9), (meeting_counts, [1], [12], 9),
                            (bounce_counts, [9], [10], 9), (bounce_counts, [1], [12], 9),
                            (second_counts, [(0,) * 6], [(0,) * 7], 6), (second_counts, [(0,)], [(0,) * 12], 6)])

    def test_new_lists(self):
        check_new(self, [(joint_counts, [3]), (meeting_counts, [3]), (bounce_counts, [3])])
