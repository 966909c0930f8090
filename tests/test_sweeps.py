"""Tests of parkedrows.sweeps: [14], [53]."""

import unittest

from parkedrows.errors import InvalidPath
from parkedrows.paths import path_by_steps
from parkedrows.sweeps import sweep_order, sweeps_home, swept, swept_back
from tests.helper import check_limits, check_wrong, few_paths, paths_tried, run_examples
from tests.test_paths import NO_PATHS

EXAMPLES = """
    >>> N, M = (0, 1, 1, 1), (0, 1, 0, 1)
    >>> [sweep_order(M), swept(N), swept(M), swept((0, 0, 0)), swept((0, 1, 2)), swept_back((0, 0, 1, 2)) == N, swept_back(N), sweeps_home(N), sweeps_home((0, 0, 0))]
    [(0, 2, 1, 3), (0, 0, 1, 2), (0, 1, 1, 1), (0, 1, 2), (0, 0, 0), True, (0, 1, 0, 1), 12, 2]
"""


def order_tried(path):
    """The indices of all levels, sorted by their heights."""
    return sorted(range(len(path)), key=lambda level: (path[level], level))


def sweep_tried(path):
    """The sweep of a path: the levels of height 0 come first, and each level is followed by those that stand on it.

    A level stands on the last one ahead that is lower by 1.
    """
    on = [max([lower for lower in range(level) if path[lower] == path[level] - 1], default=None)
          for level in range(len(path))]
    parts = ["u" * on.count(level) for level in [None] + order_tried(path)]
    return path_by_steps("r".join(parts))


class TestSweeps(unittest.TestCase):
    def test_examples(self):
        run_examples(self, EXAMPLES, "sweeps")

    def test_there_and_back(self):
        for levels in range(1, 7):
            paths = paths_tried(levels)
            for path in paths:
                self.assertEqual(tuple(order_tried(path)), sweep_order(path))
                self.assertEqual(sweep_tried(path), swept(path))
                self.assertEqual(path, swept_back(swept(path)))
                self.assertEqual(path, swept(swept_back(path)))
            self.assertEqual(paths, sorted(swept(path) for path in paths))

    def test_how_many_sweeps_lead_home(self):
        for path in few_paths(6):
            sweeps, here = 1, sweep_tried(path)
            while here != path:
                sweeps, here = sweeps + 1, sweep_tried(here)
            self.assertEqual(sweeps, sweeps_home(path))

    def test_one_and_twelve_levels(self):
        self.assertEqual([(0,), (0,), (0,), 1], [sweep_order((0,)), swept((0,)), swept_back((0,)), sweeps_home((0,))])
        low, high, path = (0,) * 12, tuple(range(12)), (0, 1, 2, 2, 1, 0, 0, 1, 2, 3, 3, 0)
        self.assertEqual([high, low, high, low], [swept(low), swept(high), swept_back(low), swept_back(high)])
        self.assertEqual((0, 5, 6, 11, 1, 4, 7, 2, 3, 8, 9, 10), sweep_order(path))
        # Four levels are of height 0; on these stand 2, 0, 1 and 0, on these 2, 0 and 1, on these 0, 0 and 2.
        self.assertEqual((0, 1, 2, 3, 3, 4, 3, 2, 3, 2, 0, 1), path_by_steps("uuuuruurrurruurrurrruurr"))
        self.assertEqual(path_by_steps("uuuuruurrurruurrurrruurr"), swept(path))
        self.assertEqual(path, swept_back(swept(path)))

    def test_eight_levels(self):
        self.assertEqual(2, sweeps_home((0,) * 8))
        path, sweeps = (0, 0, 1, 2, 1, 2, 0, 1), 0
        here = path
        while here != path or sweeps == 0:
            sweeps, here = sweeps + 1, swept(here)
        self.assertEqual(sweeps, sweeps_home(path))

    def test_wrong_arguments(self):
        check_wrong(self, [(function, [(0, 1)], [(InvalidPath, NO_PATHS)])
                           for function in (sweep_order, swept, swept_back, sweeps_home)])

    def test_limits(self):
        check_limits(self, [(sweeps_home, [(0,) * 8], [(0,) * 9], 8), (sweeps_home, [(0,)], [(0,) * 12], 8)])
