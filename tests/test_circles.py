"""Tests of parkedrows.circles: [6], [49]."""

import itertools
import unittest

from parkedrows.circles import is_ring_row, parked_turn, ring_free, ring_spots, ring_turned
from parkedrows.errors import InvalidNumber, InvalidRing
from tests.helper import NO_TUPLES, check_wrong, drive, drive_round, out_of, ring_rows, run_examples

EXAMPLES = """
    >>> [is_ring_row((3, 3, 0)), is_ring_row((4, 0, 0)), ring_spots((3, 3, 0)), ring_free((3, 3, 0)), ring_turned((3, 3, 0), 1), parked_turn((3, 3, 0)), parked_turn(P), ring_turned((0,), -1)]
    [True, False, (3, 0, 1), 2, (0, 0, 1), (1, (0, 0, 1)), (0, (1, 0, 0)), (1,)]
"""

NO_RINGS = NO_TUPLES + [(), (2,), (0, 3), (4, 0, 0), (0,) * 13, (13,) * 12, [1, 0]]


def few_rings():
    return [row for cars in (1, 2, 3, 4) for row in ring_rows(cars)]


class TestCircles(unittest.TestCase):
    def test_examples(self):
        run_examples(self, EXAMPLES, "circles")

    def test_all_small_tuples(self):
        for cars in (1, 2, 3, 4):
            for row in itertools.product(range(-1, cars + 3), repeat=cars):
                self.assertIs(min(row) >= 0 and max(row) <= cars, is_ring_row(row), row)

    def test_spots_and_the_free_one(self):
        for row in few_rings():
            spots = drive_round(row)
            self.assertEqual(spots, ring_spots(row))
            self.assertEqual(set(range(len(row) + 1)) - set(spots), {ring_free(row)})

    def test_turnings(self):
        for row in few_rings():
            turned = row
            for steps in range(7):
                self.assertEqual(turned, ring_turned(row, steps))
                self.assertEqual(row, ring_turned(turned, -steps))
                turned = tuple(0 if wish == len(row) else wish + 1 for wish in turned)

    def test_just_one_turning_is_parked(self):
        for row in few_rings():
            turnings = [ring_turned(row, steps) for steps in range(len(row) + 1)]
            parked = [steps for steps, some in enumerate(turnings) if max(some) < len(row) and drive(some) is not None]
            self.assertEqual(1, len(parked))
            self.assertEqual((parked[0], turnings[parked[0]]), parked_turn(row))

    def test_one_and_twelve_cars(self):
        self.assertEqual([(1,), 0, (1, (0,)), (0, (0,))],
                         [ring_spots((1,)), ring_free((1,)), parked_turn((1,)), parked_turn((0,))])
        row = (12,) * 12
        self.assertEqual((12,) + tuple(range(11)), ring_spots(row))
        self.assertEqual([11, (1, (0,) * 12)], [ring_free(row), parked_turn(row)])
        self.assertEqual([(11,) * 12, (0,) * 12, row], [ring_turned(row, steps) for steps in (-1, 1, 13)])

    def test_most_steps(self):
        self.assertEqual([(0, 2), (2, 1)], [ring_turned((2, 1), 1000), ring_turned((1, 0), 1000)])
        self.assertEqual([(1, 0), (2, 1)], [ring_turned((2, 1), -1000), ring_turned((0, 2), -1000)])

    def test_any_value(self):
        for value in NO_RINGS:
            self.assertIs(False, is_ring_row(value), value)

    def test_wrong_arguments(self):
        check_wrong(self, [(function, [(3, 3, 0)], [(InvalidRing, NO_RINGS)])
                           for function in (ring_spots, ring_free, parked_turn)])
        check_wrong(self, [(ring_turned, [(3, 3, 0), -1000], [(InvalidRing, NO_RINGS),
                                                              (InvalidNumber, out_of(-1000, 1000))]),
                           (ring_turned, [(0,), 1000], [(InvalidRing, NO_RINGS), (InvalidNumber, [1001, -1001])])])
