"""Tests of parkedrows.outcomes: [43], [89]."""

import itertools
import math
import unittest

from parkedrows.errors import InvalidSpots
from parkedrows.outcomes import are_spots, count_of_spots, lows_of_spots, moves_of_spots
from tests.helper import NO_TUPLES, check_wrong, drive, rows_driven, run_examples
from tests.test_cluecounts import moves_of
from tests.test_spreads import spread_of

EXAMPLES = """
    >>> [are_spots((1, 0, 2)), are_spots((1, 1, 0)), are_spots(()), count_of_spots((0, 1, 2)), count_of_spots((1, 0, 2)), count_of_spots((2, 0, 1, 3)), lows_of_spots((1, 0, 2)) == P, lows_of_spots((2, 0, 1, 3)), moves_of_spots((1, 0, 2)), moves_of_spots((0, 1, 2)), moves_of_spots((2, 1, 0))]
    [True, False, False, 6, 3, 8, True, (2, 0, 0, 0), (1, 1, 1), (1, 2, 2, 1), (1,)]
"""

NO_SPOTS = NO_TUPLES + [(), (1,), (0, 0), (1, 1, 0), (1, 2), (0, 2), (0, 1, 3), tuple(range(13)), [1, 0, 2],
                        (0, True), (True, 0), (1, False), (0, 1, None), (0, 1, "2"), (0, (1,)), (-1, 0), (2, 1, -1)]


class TestOutcomes(unittest.TestCase):
    def test_examples(self):
        run_examples(self, EXAMPLES, "outcomes")

    def test_all_rows(self):
        for cars in (1, 2, 3, 4, 5):
            led = {}
            for row in rows_driven(cars):
                led.setdefault(drive(row), []).append(row)
            self.assertEqual(set(itertools.permutations(range(cars))), set(led))
            for spots, rows in led.items():
                self.assertEqual(len(rows), count_of_spots(spots))
                self.assertEqual(tuple(min(wishes) for wishes in zip(*rows)), lows_of_spots(spots))
                self.assertEqual(max(rows, key=moves_of), lows_of_spots(spots))
                self.assertEqual(spread_of(moves_of(row) for row in rows), moves_of_spots(spots))

    def test_which_are_spots(self):
        for many in (1, 2, 3):
            for value in itertools.product(range(-1, 4), repeat=many):
                self.assertIs(sorted(value) == list(range(many)), are_spots(value), value)
        for value in NO_SPOTS:
            self.assertIs(False, are_spots(value), value)

    def test_twelve_cars(self):
        rising, falling = tuple(range(12)), tuple(range(11, -1, -1))
        self.assertEqual([True, True, math.factorial(12), 1, (0,) * 12, falling, (1,)],
                         [are_spots(rising), are_spots(falling), count_of_spots(rising), count_of_spots(falling),
                          lows_of_spots(rising), lows_of_spots(falling), moves_of_spots(falling)])
        moves = moves_of_spots(rising)
        self.assertEqual([67, math.factorial(12), 1, 11, 1], [len(moves), sum(moves), moves[0], moves[1], moves[66]])
        # The last car finds all others ahead of it.
        split = (0, 2, 4, 6, 8, 10, 1, 3, 5, 7, 9, 11)
        self.assertEqual([(0, 2, 4, 6, 8, 10, 0, 0, 0, 0, 0, 0), 2 * 4 * 6 * 8 * 10 * 12],
                         [lows_of_spots(split), count_of_spots(split)])

    def test_one_car(self):
        self.assertEqual([True, 1, (0,), (1,)],
                         [are_spots((0,)), count_of_spots((0,)), lows_of_spots((0,)), moves_of_spots((0,))])

    def test_wrong_arguments(self):
        for function in (count_of_spots, lows_of_spots, moves_of_spots):
            check_wrong(self, [(function, [(1, 0, 2)], [(InvalidSpots, NO_SPOTS)])])
