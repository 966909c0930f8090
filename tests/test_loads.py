"""Tests of parkedrows.loads: [16], [57]."""

import itertools
import unittest

from parkedrows.errors import InvalidCorner, InvalidLoad
from parkedrows.loads import is_load, is_settled, settled, spilled, spills_of, unsteady_corners
from tests.helper import NO_TUPLES, check_new, check_wrong, out_of, raised, run_examples, spill_by_spill

EXAMPLES = """
    >>> G, B = (1, 2, 2), (5, 0, 1)
    >>> [is_load(G), is_load((1, -1)), is_load(()), is_settled(G), is_settled(B), unsteady_corners(B), unsteady_corners((3, 9, 2)), spilled(B, 1), settled(B), spills_of(B), settled((4, 4, 4)), spills_of((4, 4, 4)), settled((7,))]
    [True, False, False, True, False, [1], [1, 2], (2, 1, 2), (2, 1, 2), (1, 0, 0), (2, 2, 2), (2, 2, 2), (0,)]
"""

NO_LOADS = NO_TUPLES + [(), (1001,), (0, 1001), (5, -1, 3), (1, 2, True), (0,) * 13, (1000,) * 13, [1, 2], [5, 0, 1],
                        (0, 0, (1,))]

# Which of the unsteady corners spills next; the last one stands for a turn that looks haphazard.
CHOICES = [min, max, lambda corners: corners[len(corners) // 2], lambda corners: corners[sum(corners) % len(corners)]]


def some_loads():
    """Loads of one to four corners, settled ones and others."""
    few = [load for corners in (1, 2, 3) for load in itertools.product(range(2 * corners + 2), repeat=corners)]
    return few + list(itertools.product((0, 1, 3, 4, 9), repeat=4)) + [(1000,), (1000, 0), (0, 1000, 7), (9, 0, 0, 31)]


class TestLoads(unittest.TestCase):
    def test_examples(self):
        run_examples(self, EXAMPLES, "loads")

    def test_which_are_loads(self):
        for load in some_loads():
            self.assertIs(True, is_load(load))
        self.assertIs(True, is_load((1000,) * 12))
        for value in NO_LOADS:
            self.assertIs(False, is_load(value), value)

    def test_unsteady_corners(self):
        for load in some_loads():
            corners = [corner for corner, grains in enumerate(load, 1) if grains >= len(load)]
            self.assertEqual(corners, unsteady_corners(load))
            self.assertIs(corners == [], is_settled(load))

    def test_spilled(self):
        for load in some_loads():
            for corner in range(len(load) + 2):
                if 0 < corner <= len(load) and load[corner - 1] >= len(load):
                    behind = [grains + 1 for grains in load]
                    behind[corner - 1] = load[corner - 1] - len(load)
                    self.assertEqual(tuple(behind), spilled(load, corner))
                else:
                    self.assertRaises(InvalidCorner, spilled, load, corner)

    def test_settled_in_several_orders(self):
        for load in some_loads():
            for choose in CHOICES:
                left, spills = spill_by_spill(load, choose)
                self.assertEqual(left, settled(load), load)
                self.assertEqual(spills, spills_of(load), load)
                self.assertEqual(sum(load) - sum(spills), sum(left))

    def test_twelve_corners(self):
        full = (1000,) * 12
        self.assertEqual(list(range(1, 13)), unsteady_corners(full))
        self.assertEqual([(11,) * 12, (989,) * 12], [settled(full), spills_of(full)])
        self.assertEqual(spill_by_spill(full, max), (settled(full), spills_of(full)))
        self.assertEqual((1001,) * 4 + (988,) + (1001,) * 7, spilled(full, 5))
        mixed = (0, 12, 11, 500, 3, 1000, 7, 7, 0, 999, 12, 1)
        self.assertEqual(spill_by_spill(mixed, min), (settled(mixed), spills_of(mixed)))
        self.assertEqual([(11,) * 12, (0,) * 12], [settled((11,) * 12), spills_of((11,) * 12)])

    def test_more_than_a_thousand_grains_behind_a_spilling(self):
        behind = spilled((1000, 3, 1000), 1)
        self.assertEqual((997, 4, 1001), behind)
        self.assertIs(False, is_load(behind))
        for function in (is_settled, unsteady_corners, settled, spills_of):
            self.assertIs(InvalidLoad, raised(function, [behind]).__class__)
        self.assertIs(InvalidLoad, raised(spilled, [behind, 1]).__class__)

    def test_wrong_arguments(self):
        check_wrong(self, [(function, [(5, 0, 1)], [(InvalidLoad, NO_LOADS)])
                           for function in (is_settled, unsteady_corners, settled, spills_of)])
        check_wrong(self, [(spilled, [(5, 0, 1), 1], [(InvalidLoad, NO_LOADS),
                                                      (InvalidCorner, out_of(1, 3) + [2, 3])]),
                           (spilled, [(2, 3, 2), 2], [(InvalidLoad, NO_LOADS),
                                                      (InvalidCorner, out_of(1, 3) + [1, 3])])])

    def test_new_lists(self):
        check_new(self, [(unsteady_corners, [(3, 9, 2)])])
