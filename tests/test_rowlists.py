"""Tests of parkedrows.rowlists: [48]."""

import unittest

from parkedrows.errors import InvalidCars, InvalidNumber, InvalidRow, TooMany
from parkedrows.rowlists import (count_first, count_parked, count_prime, count_rising, parked_rows, rising_rows,
                                 row_number, row_with)
from parkedrows.rows import is_parked, is_prime
from tests.helper import (HUGE, NO_INTEGERS, P, check_limits, check_new, check_wrong, out_of, raised, rows_driven,
                          run_examples)
from tests.test_rows import NO_ROWS

EXAMPLES = """
    >>> [parked_rows(2), len(parked_rows(3)), rising_rows(3), row_number(P), row_number(L), row_with(3, 15), [count_parked(cars) for cars in (1, 2, 3, 4, 5)], [count_first(3, wish) for wish in (0, 1, 2)], [count_prime(cars) for cars in (1, 2, 3, 4)], count_rising(4)]
    [[(0, 0), (0, 1), (1, 0)], 16, [(0, 0, 0), (0, 0, 1), (0, 0, 2), (0, 1, 1), (0, 1, 2)], 8, 0, (2, 1, 0), [1, 3, 16, 125, 1296], [8, 5, 3], [1, 1, 4, 27], 14]
"""

NO_CARS = out_of(1, 12)
NO_MANY_CARS = out_of(1, 60)
NO_NUMBERS = NO_INTEGERS + [-1, -HUGE, -1000]


class TestRowLists(unittest.TestCase):
    def test_examples(self):
        run_examples(self, EXAMPLES, "rowlists")

    def test_lists_against_driving(self):
        for cars in (1, 2, 3, 4, 5):
            rows = rows_driven(cars)
            self.assertEqual(rows, parked_rows(cars))
            self.assertEqual([row for row in rows if list(row) == sorted(row)], rising_rows(cars))

    def test_numbers_there_and_back(self):
        for cars in (1, 2, 3, 4):
            for number, row in enumerate(rows_driven(cars)):
                self.assertEqual(number, row_number(row))
                self.assertEqual(row, row_with(cars, number))

    def test_counts_against_lists(self):
        for cars in (1, 2, 3, 4, 5):
            rows = rows_driven(cars)
            self.assertEqual(len(rows), count_parked(cars))
            self.assertEqual(len([row for row in rows if list(row) == sorted(row)]), count_rising(cars))
            self.assertEqual(len([row for row in rows if is_prime(row)]), count_prime(cars))
            for wish in range(cars):
                self.assertEqual(len([row for row in rows if row[0] == wish]), count_first(cars, wish))

    def test_nine_cars(self):
        rising = rising_rows(9)
        self.assertEqual(4862, len(rising))
        self.assertEqual(sorted(set(rising)), rising)
        self.assertTrue(all(is_parked(row) and list(row) == sorted(row) for row in rising))
        self.assertEqual([0, 10 ** 8 - 1], [row_number((0,) * 9), row_number((8, 7, 6, 5, 4, 3, 2, 1, 0))])
        self.assertEqual([(0,) * 9, (8, 7, 6, 5, 4, 3, 2, 1, 0)], [row_with(9, 0), row_with(9, 10 ** 8 - 1)])
        for number in (1, 12345678, 50000000, 99999998):
            self.assertEqual(number, row_number(row_with(9, number)))
        self.assertLess(row_with(9, 777), row_with(9, 778))

    def test_many_cars(self):
        self.assertEqual([13 ** 11, 61 ** 59], [count_parked(12), count_parked(60)])
        self.assertEqual([11 ** 11, 59 ** 59], [count_prime(12), count_prime(60)])
        self.assertEqual([208012, 1583850964596120042686772779038896], [count_rising(12), count_rising(60)])
        self.assertEqual(61 ** 59, sum(count_first(60, wish) for wish in range(60)))
        # In the last spot a car with the last wish parks; the others are parked without it.
        self.assertEqual([12 ** 10, 60 ** 58], [count_first(12, 11), count_first(60, 59)])
        self.assertEqual(2 * 61 ** 58, count_first(60, 0))

    def test_wrong_arguments(self):
        check_wrong(self, [(function, [3], [(InvalidCars, NO_CARS)]) for function in (parked_rows, rising_rows)])
        check_wrong(self, [(function, [60], [(InvalidCars, NO_MANY_CARS)])
                           for function in (count_parked, count_rising, count_prime)])
        check_wrong(self, [(row_number, [P], [(InvalidRow, NO_ROWS)]),
                           (row_with, [3, 15], [(InvalidCars, NO_CARS), (InvalidNumber, NO_NUMBERS + [16, HUGE])]),
                           (count_first, [3, 2], [(InvalidCars, NO_MANY_CARS), (InvalidNumber, out_of(0, 2))]),
                           (count_first, [1, 0], [(InvalidCars, NO_MANY_CARS), (InvalidNumber, [-1, 1, False])])])

    def test_limits(self):
        check_limits(self, [(parked_rows, [5], [6], 5), (parked_rows, [1], [12], 5),
                            (rising_rows, [9], [10], 9), (rising_rows, [1], [12], 9),
                            (row_number, [(0,) * 9], [(0,) * 10], 9), (row_number, [(0,)], [(0,) * 12], 9),
                            (row_with, [9, 5], [10, 5], 9), (row_with, [1, 0], [12, 0], 9)])

    def test_number_beyond_all_rows_comes_behind_too_many(self):
        for cars in range(1, 10):
            self.assertIs(InvalidNumber, raised(row_with, [cars, (cars + 1) ** (cars - 1)]).__class__)
            self.assertIsNone(raised(row_with, [cars, (cars + 1) ** (cars - 1) - 1]))
        for cars in (10, 11, 12):
            self.assertIs(TooMany, raised(row_with, [cars, HUGE]).__class__)
            self.assertIs(InvalidNumber, raised(row_with, [cars, -1]).__class__)
            self.assertIs(InvalidNumber, raised(row_with, [cars, True]).__class__)

    def test_new_lists(self):
        check_new(self, [(parked_rows, [3]), (rising_rows, [3]), (parked_rows, [1]), (rising_rows, [1])])
