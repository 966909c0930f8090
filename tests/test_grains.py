"""Tests of parkedrows.grains: [60]."""

import unittest

from parkedrows.errors import InvalidCorner, InvalidLoad
from parkedrows.grains import grain_added, grain_taken, rain, spills_by_grain
from tests.helper import (NO_TUPLES, check_new, check_wrong, loads_again, nested, out_of, run_examples,
                          spill_by_spill)
from tests.test_burning import NO_AGAIN

EXAMPLES = """
    >>> G, H = (1, 2, 2), (0, 2, 2)
    >>> [grain_added(G, 1), grain_added(G, 2), spills_by_grain(G, 2), grain_taken((2, 2, 2), 1) == G, grain_taken(G, 1) == H, rain(H, (1, 1, 1, 1)) == [H, G, (2, 2, 2), (2, 1, 1), H], spills_by_grain((2, 2, 2), 1)]
    [(2, 2, 2), (0, 2, 1), (1, 1, 1), True, True, True, (1, 1, 1)]
"""

NO_CORNERS = NO_TUPLES + [(4,), (1, 2, 3, 4), (1, 0, 2), (1, True), (1, "2"), (1, (2,)), [1, 2], (1,) * 61,
                          (1,) * 500, nested(tuple, 1), (1, 10 ** 119)]


def with_a_grain(load, corner):
    """What comes of a load with a grain more, and how often each corner spills."""
    return spill_by_spill([grains + (at == corner) for at, grains in enumerate(load, 1)], max)


class TestGrains(unittest.TestCase):
    def test_examples(self):
        run_examples(self, EXAMPLES, "grains")

    def test_grains_added_and_taken(self):
        for corners in (1, 2, 3, 4):
            loads = loads_again(corners)
            for corner in range(1, corners + 1):
                behind = {load: with_a_grain(load, corner) for load in loads}
                self.assertEqual(loads, sorted(left for left, _ in behind.values()))
                for load, (left, spills) in behind.items():
                    self.assertEqual(left, grain_added(load, corner))
                    self.assertEqual(spills, spills_by_grain(load, corner))
                    self.assertEqual(load, grain_taken(left, corner))

    def test_rain(self):
        for load in loads_again(3):
            for corners in ((), (1,), (3, 3), (1, 2, 3, 2, 1), (2,) * 60, (1, 2, 3) * 20):
                loads = [load]
                for corner in corners:
                    loads.append(with_a_grain(loads[-1], corner)[0])
                self.assertEqual(loads, rain(load, corners))

    def test_one_corner(self):
        self.assertEqual([(0,), (1,), (0,), [(0,)], [(0,)] * 61],
                         [grain_added((0,), 1), spills_by_grain((0,), 1), grain_taken((0,), 1), rain((0,), ()),
                          rain((0,), (1,) * 60)])

    def test_twelve_corners(self):
        full = (11,) * 12
        fewer = (11,) * 4 + (10,) + (11,) * 7
        self.assertEqual([fewer, full, (1,) * 12],
                         [grain_taken(full, 5), grain_added(fewer, 5), spills_by_grain(full, 5)])
        self.assertEqual((11,) + (10,) * 11, grain_added(full, 1))
        load = (3, 11, 11, 10, 4, 5, 9, 11, 8, 7, 6, 11)
        for corner in (1, 2, 12):
            self.assertEqual(with_a_grain(load, corner), (grain_added(load, corner), spills_by_grain(load, corner)))
            self.assertEqual(load, grain_taken(grain_added(load, corner), corner))
        self.assertEqual(load, rain(load, (7,) * 13)[-1])

    def test_wrong_arguments(self):
        load = (InvalidLoad, NO_AGAIN)
        check_wrong(self, [(function, [(1, 2, 2), corner], [load, (InvalidCorner, out_of(1, 3))])
                           for function in (grain_added, spills_by_grain, grain_taken) for corner in (1, 3)])
        check_wrong(self, [(rain, [(1, 2, 2), corners], [load, (InvalidCorner, NO_CORNERS)])
                           for corners in ((), (1, 3), (2,) * 60)])

    def test_new_lists(self):
        check_new(self, [(rain, [(1, 2, 2), ()]), (rain, [(1, 2, 2), (1, 2)])])
