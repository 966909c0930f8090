"""Tests of parkedrows.spreads: [37], [77]."""

import math
import unittest

from parkedrows.errors import InvalidCars, InvalidNumber
from parkedrows.spreads import (displacement_spread, displacement_value, overtaking_spread, total_displacement,
                                wish_sum_spread)
from tests.helper import ancestors, check_wrong, drive, out_of, rows_driven, run_examples, tally, trees_walked

EXAMPLES = """
    >>> [displacement_spread(3), displacement_spread(4), wish_sum_spread(3), overtaking_spread(3), displacement_spread(1), [total_displacement(many) for many in (1, 2, 3, 4)], displacement_value(3, -1), displacement_value(4, -1), displacement_value(3, 2), displacement_value(3, 0)]
    [(6, 6, 3, 1), (24, 36, 30, 20, 10, 4, 1), (1, 3, 6, 6), (6, 6, 3, 1), (1,), [0, 1, 15, 222], 2, 5, 38, 6]
"""


def spread_of(numbers):
    """The spread of the numbers that things have."""
    counts = tally(numbers)
    return tuple(counts.get(number, 0) for number in range(max(counts) + 1))


def sums_wish_by_wish(cars):
    """The spread of the sum of all wishes, told wish by wish: how many cars have each."""
    ways = {(0, 0): 1}
    for wish in range(cars):
        grown = {}
        for (many, total), worth in ways.items():
            for more in range(max(0, wish + 1 - many), cars - many + 1):
                key = many + more, total + wish * more
                grown[key] = grown.get(key, 0) + worth * math.comb(cars - many, more)
        ways = grown
    return tuple(ways[(cars, total)] for total in range(cars * (cars - 1) // 2 + 1))


class TestSpreads(unittest.TestCase):
    def test_examples(self):
        run_examples(self, EXAMPLES, "spreads")

    def test_all_rows(self):
        for cars in (1, 2, 3, 4, 5):
            rows = rows_driven(cars)
            moves = [sum(drive(row)) - sum(row) for row in rows]
            self.assertEqual(spread_of(moves), displacement_spread(cars))
            self.assertEqual(spread_of(sum(row) for row in rows), wish_sum_spread(cars))
            self.assertEqual(sum(moves), total_displacement(cars))
            for number in (-1000, -3, -2, -1, 0, 1, 2, 7, 999, 1000):
                self.assertEqual(sum(number ** more for more in moves), displacement_value(cars, number))

    def test_all_trees(self):
        for corners in (1, 2, 3, 4):
            many = [sum(above > corner for corner in range(1, corners + 1) for above in ancestors(tree, corner))
                    for tree in trees_walked(corners)]
            self.assertEqual(spread_of(many), overtaking_spread(corners))

    def test_more_cars(self):
        for cars in range(1, 17):
            sums = sums_wish_by_wish(cars)
            self.assertEqual([sums, sums[::-1], sums[::-1]],
                             [wish_sum_spread(cars), displacement_spread(cars), overtaking_spread(cars)])
            self.assertEqual(sum(more * many for more, many in enumerate(sums[::-1])), total_displacement(cars))
            for number in (-1000, -1, 0, 1, 3, 1000):
                self.assertEqual(sum(many * number ** more for more, many in enumerate(sums[::-1])),
                                 displacement_value(cars, number))

    def test_sixteen_cars(self):
        spread = displacement_spread(16)
        self.assertEqual([121, 17 ** 15, math.factorial(16), 1, 16],
                         [len(spread), sum(spread), spread[0], spread[-1], spread[-2]])
        self.assertEqual([17 ** 15, math.factorial(16)], [displacement_value(16, 1), displacement_value(16, 0)])

    def test_one_car(self):
        self.assertEqual([(1,), (1,), (1,), 0, 1, 1],
                         [displacement_spread(1), wish_sum_spread(1), overtaking_spread(1), total_displacement(1),
                          displacement_value(1, 0), displacement_value(1, -1000)])

    def test_wrong_arguments(self):
        cars = (InvalidCars, out_of(1, 16))
        functions = (displacement_spread, wish_sum_spread, overtaking_spread, total_displacement)
        check_wrong(self, [(function, [16], [cars]) for function in functions])
        check_wrong(self, [(displacement_value, [16, end], [cars, (InvalidNumber, out_of(-1000, 1000))])
                           for end in (-1000, 1000)])
