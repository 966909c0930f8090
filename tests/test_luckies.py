"""Tests of parkedrows.luckies: [5], [37], [79]."""

import itertools
import math
import unittest

from parkedrows.errors import InvalidCars, InvalidCounts, InvalidWishes
from parkedrows.luckies import count_beginning, count_by_counts, lucky_spread, zeros_spread
from tests.helper import HUGE, NO_TUPLES, check_wrong, drive, out_of, rows_driven, run_examples, tally
from tests.test_spreads import spread_of

EXAMPLES = """
    >>> [lucky_spread(1), lucky_spread(3), lucky_spread(4), zeros_spread(2), zeros_spread(3), [count_beginning(3, some) for some in ((), (0,), (2,), (2, 2), (1, 0), (1, 1), (0, 1, 2))]]
    [(0, 1), (0, 2, 8, 6), (0, 6, 37, 58, 24), (0, 2, 1), (0, 9, 6, 1), [16, 8, 3, 0, 3, 1, 1]]
    >>> [count_by_counts(some) for some in ((2, 1, 0), (1, 1, 1), (1, 0, 2), (0, 3, 0), (3, 0, 0), (1,))]
    [3, 6, 0, 0, 1, 1]
"""

NO_WISHES = NO_TUPLES + [(3,), (0, 3), (0, 0, 0, 0), (0, 1, 2, 0), (0, 0, -1), [], [2], (HUGE, 0, 0)]
NO_COUNTS = NO_TUPLES + [(), (0,), (2,), (1, 0), (1, 1, 0), (2, 1), (3, -1, 1), (1, 2, 1), (0, 0, 0), [1], [2, 1, 0],
                         (1,) * 61, (61,) + (0,) * 60, (2, True, 0), (True, 2, 0), (3, False, 0), (2, 1, None),
                         (1, 1, (1,)), (HUGE, 1 - HUGE), (60,) + (0,) * 58]


class TestLuckies(unittest.TestCase):
    def test_examples(self):
        run_examples(self, EXAMPLES, "luckies")

    def test_lucky_cars_and_zeros(self):
        for cars in (1, 2, 3, 4, 5):
            rows = rows_driven(cars)
            self.assertEqual(spread_of(sum(wish == spot for wish, spot in zip(row, drive(row))) for row in rows),
                             lucky_spread(cars))
            self.assertEqual(spread_of(row.count(0) for row in rows), zeros_spread(cars))

    def test_beginnings(self):
        for cars in (1, 2, 3, 4, 5):
            rows = rows_driven(cars)
            for many in range(cars + 1):
                begun = tally(row[:many] for row in rows)
                for wishes in itertools.product(range(cars), repeat=many):
                    self.assertEqual(begun.get(wishes, 0), count_beginning(cars, wishes))

    def test_counts(self):
        for cars in (1, 2, 3, 4, 5):
            found = tally(tuple(row.count(wish) for wish in range(cars)) for row in rows_driven(cars))
            for counts in itertools.product(range(cars + 1), repeat=cars):
                if sum(counts) == cars:
                    self.assertEqual(found.get(counts, 0), count_by_counts(counts))

    def test_sixty_cars(self):
        lucky, zeros = lucky_spread(60), zeros_spread(60)
        self.assertEqual([61, 61, 61 ** 59, 61 ** 59], [len(lucky), len(zeros), sum(lucky), sum(zeros)])
        self.assertEqual([0, math.factorial(59), math.factorial(60)], [lucky[0], lucky[1], lucky[60]])
        self.assertEqual([0, 60 ** 59, math.comb(59, 29) * 60 ** 30, 59 * 60, 1],
                         [zeros[0], zeros[1], zeros[30], zeros[59], zeros[60]])

    def test_sixty_cars_that_begin(self):
        self.assertEqual([61 ** 59, 1, 1, 0, 60],
                         [count_beginning(60, wishes) for wishes in ((), (0,) * 60, tuple(range(59, -1, -1)),
                                                                     (59, 59), (0,) * 59)])
        for wishes in ((), (7, 59), (30,) * 9, tuple(range(0, 59, 3))):
            self.assertEqual(count_beginning(60, wishes),
                             sum(count_beginning(60, wishes + (wish,)) for wish in range(60)))

    def test_sixty_counts(self):
        self.assertEqual([1, math.factorial(60), 0, 0, math.comb(60, 30), math.factorial(60) // 2 ** 30],
                         [count_by_counts(counts) for counts in
                          ((60,) + (0,) * 59, (1,) * 60, (0,) * 59 + (60,), (1, 0, 2) + (1,) * 57,
                           (30,) + (0,) * 28 + (30,) + (0,) * 30, (2, 0) * 30)])

    def test_one_car(self):
        self.assertEqual([(0, 1), (0, 1), 1, 1, 1],
                         [lucky_spread(1), zeros_spread(1), count_beginning(1, ()), count_beginning(1, (0,)),
                          count_by_counts((1,))])

    def test_wrong_arguments(self):
        cars = (InvalidCars, out_of(1, 60))
        check_wrong(self, [(lucky_spread, [60], [cars]), (zeros_spread, [60], [cars]),
                           (count_beginning, [3, (0, 1)], [cars, (InvalidWishes, NO_WISHES)]),
                           (count_beginning, [60, (59,)], [cars, (InvalidWishes, [(60,), (0,) * 61, (59, -1)])]),
                           (count_by_counts, [(2, 1, 0)], [(InvalidCounts, NO_COUNTS)])])
