"""Tests of parkedrows.paths: [10], of [12], [13] and [15] what levels and cells are, [52]."""

import itertools
import unittest

from parkedrows.errors import InvalidCars, InvalidPath, InvalidSteps
from parkedrows.paths import (all_paths, bounce, bounce_spots, is_path, meeting_pairs, path_area, path_by_steps,
                              path_cells, path_steps)
from tests.helper import NO_TUPLES, check_limits, check_new, check_wrong, few_paths, nested, out_of, paths_tried
from tests.helper import run_examples

EXAMPLES = """
    >>> N, M = (0, 1, 1, 1), (0, 1, 0, 1)
    >>> [is_path(N), is_path((0, 2)), is_path((1,)), is_path(()), all_paths(3), path_steps(N), path_steps(M), path_by_steps("uruurr"), path_area(N)]
    [True, False, False, False, [(0, 0, 0), (0, 0, 1), (0, 1, 0), (0, 1, 1), (0, 1, 2)], 'uurururr', 'uurruurr', (0, 0, 1), 3]
    >>> [meeting_pairs(N), meeting_pairs(M), path_cells(N), path_cells((0, 1, 2)), bounce_spots(N), bounce_spots((0, 0, 0)), bounce(N), bounce(M), bounce((0, 0, 0)), bounce((0, 1, 2))]
    [[(1, 2), (1, 3), (2, 3)], [(0, 2), (1, 2), (1, 3)], [(0, 1), (1, 2), (2, 3)], [(0, 1), (0, 2), (1, 2)], (2,), (1, 2), 2, 2, 3, 0]
"""

NO_PATHS = NO_TUPLES + [(), (1,), (0, 2), (0, 1, 3), (0, 0, 2), (1, 1), (0, 1, -1), (0,) * 13, tuple(range(13)), [0, 1]]
NO_STEPS = [None, True, 0, 1, (), ("u", "r"), ["u", "r"], ("ur",), "", "u", "r", "ru", "uu", "urr", "uurr ", " ur",
            "ur\n", "UR", "uxr", "urru", "uurrru", "urur0", "ud", "ur" * 13, "u" * 13 + "r" * 13, "ur" * 500,
            "u" * 1000, (0,), (0, 1), nested(list, "ur"), 10 ** 119, ("u",) * 500]


def squares_under(word):
    """How many whole squares lie between the steps of a path and the slanted line."""
    area, ups, rights = 0, 0, 0
    for step in word:
        if step == "u":
            area += ups - rights
            ups += 1
        else:
            rights += 1
    return area


class TestPaths(unittest.TestCase):
    def test_examples(self):
        run_examples(self, EXAMPLES, "paths")

    def test_which_tuples_are_paths(self):
        for levels in (1, 2, 3, 4, 5):
            paths = paths_tried(levels)
            self.assertEqual(paths, all_paths(levels))
            for heights in itertools.product(range(-1, levels + 1), repeat=levels):
                self.assertIs(heights in paths, is_path(heights), heights)

    def test_steps_there_and_back(self):
        for levels in (1, 2, 3, 4, 5):
            found = {path_steps(path): path for path in paths_tried(levels)}
            for steps in itertools.product("ru", repeat=2 * levels):
                word = "".join(steps)
                heights = [word[:at].count("u") - word[:at].count("r") for at in range(2 * levels + 1)]
                if min(heights) >= 0 and heights[-1] == 0:
                    path = tuple(height for height, step in zip(heights, word) if step == "u")
                    self.assertEqual(path, found.pop(word))
                    self.assertEqual(path, path_by_steps(word))
                else:
                    self.assertRaises(InvalidSteps, path_by_steps, word)
            self.assertEqual({}, found)

    def test_areas_and_pairs(self):
        for path in few_paths(5):
            levels = range(len(path))
            pairs = list(itertools.combinations(levels, 2))
            self.assertEqual(squares_under(path_steps(path)), path_area(path))
            self.assertEqual([(i, j) for i, j in pairs if path[i] - path[j] in (0, 1)], meeting_pairs(path))
            self.assertEqual([(i, j) for i, j in pairs if j - path[j] <= i], path_cells(path))
            self.assertEqual(path_area(path), len(path_cells(path)))

    def test_bounces(self):
        for path in few_paths(5):
            spots, spot = [], 0
            while spot < len(path):
                spot = sum(1 for index, height in enumerate(path) if index <= spot + height)
                spots.append(spot)
            self.assertEqual(len(path), spots.pop())
            self.assertEqual(tuple(spots), bounce_spots(path))
            self.assertEqual(sum(len(path) - spot for spot in spots), bounce(path))

    def test_one_and_twelve_levels(self):
        self.assertEqual([True, [(0,)], "ur", (0,), 0, [], [], (), 0],
                         [is_path((0,)), all_paths(1), path_steps((0,)), path_by_steps("ur"), path_area((0,)),
                          meeting_pairs((0,)), path_cells((0,)), bounce_spots((0,)), bounce((0,))])
        low, high = (0,) * 12, tuple(range(12))
        pairs = list(itertools.combinations(range(12), 2))
        self.assertEqual([0, 66], [path_area(low), path_area(high)])
        self.assertEqual(["ur" * 12, "u" * 12 + "r" * 12], [path_steps(low), path_steps(high)])
        self.assertEqual([low, high], [path_by_steps("ur" * 12), path_by_steps("u" * 12 + "r" * 12)])
        self.assertEqual([pairs, []], [meeting_pairs(low), meeting_pairs(high)])
        self.assertEqual([[], pairs], [path_cells(low), path_cells(high)])
        self.assertEqual([tuple(range(1, 12)), ()], [bounce_spots(low), bounce_spots(high)])
        self.assertEqual([66, 0], [bounce(low), bounce(high)])

    def test_nine_levels(self):
        paths = all_paths(9)
        self.assertEqual([4862, (0,) * 9, tuple(range(9))], [len(paths), paths[0], paths[-1]])
        self.assertEqual(sorted(set(paths)), paths)
        self.assertTrue(all(is_path(path) for path in paths))

    def test_any_value(self):
        for value in NO_PATHS:
            self.assertIs(False, is_path(value), value)

    def test_wrong_arguments(self):
        check_wrong(self, [(function, [(0, 1)], [(InvalidPath, NO_PATHS)]) for function in
                           (path_steps, path_area, meeting_pairs, path_cells, bounce_spots, bounce)])
        check_wrong(self, [(all_paths, [3], [(InvalidCars, out_of(1, 12))]),
                           (path_by_steps, ["ur"], [(InvalidSteps, NO_STEPS)])])

    def test_limits(self):
        check_limits(self, [(all_paths, [9], [10], 9), (all_paths, [1], [12], 9)])

    def test_new_lists(self):
        check_new(self, [(all_paths, [3]), (all_paths, [1]), (meeting_pairs, [(0, 1, 1, 1)]),
                         (path_cells, [(0, 1, 1, 1)])])
