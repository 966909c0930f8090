"""Tests of parkedrows.rows: [4], [5], [47]."""

import itertools
import unittest

from parkedrows.errors import InvalidRow
from parkedrows.rows import (are_wishes, cars_at, displacement, is_parked, is_prime, lucky_cars, put_in_order,
                             spots_of)
from tests.helper import NO_TUPLES, P, check_new, check_wrong, drive, few_rows, run_examples

EXAMPLES = """
    >>> [are_wishes((2, 2, 2)), is_parked((2, 2, 2)), is_parked(P), is_parked(()), is_parked([0]), spots_of(P), cars_at(P), spots_of(W), cars_at(W), spots_of(L)]
    [True, False, True, False, False, (1, 0, 2), (1, 0, 2), (2, 0, 1, 3), (1, 2, 0, 3), (0, 1, 2)]
    >>> [[displacement(some) for some in (P, U, L, W)], lucky_cars(P), lucky_cars(W), [is_prime(some) for some in (P, U, L, (0,))], put_in_order(W)]
    [[2, 0, 3, 3], [0, 1], [0, 1], [True, False, True, True], (0, 0, 1, 2)]
"""

NO_ROWS = NO_TUPLES + [(), (1,), (1, 1), (0, 2), (2, 2, 2), (1, 2, 1), (0, 0, 3), (0,) * 13, tuple(range(13)), [0, 1]]


class TestRows(unittest.TestCase):
    def test_examples(self):
        run_examples(self, EXAMPLES, "rows")

    def test_all_small_tuples(self):
        for cars in (1, 2, 3, 4):
            for row in itertools.product(range(-1, cars + 2), repeat=cars):
                wishes = min(row) >= 0 and max(row) < cars
                self.assertIs(wishes, are_wishes(row), row)
                self.assertIs(wishes and drive(row) is not None, is_parked(row), row)

    def test_against_driving(self):
        for row in few_rows():
            spots = drive(row)
            self.assertEqual(spots, spots_of(row))
            self.assertEqual(row, tuple(row))
            self.assertEqual(sorted(range(len(row)), key=spots.__getitem__), list(cars_at(row)))
            self.assertEqual(sum(spots) - sum(row), displacement(row), row)
            self.assertEqual([car for car, wish in enumerate(row) if wish == spots[car]], lucky_cars(row), row)
            self.assertEqual(tuple(sorted(row)), put_in_order(row))

    def test_prime_without_one_of_the_zeros(self):
        for row in few_rows():
            at = row.index(0)
            shorter = row[:at] + row[at + 1:]
            parked = row == (0,) or (max(shorter) < len(shorter) and drive(shorter) is not None)
            self.assertIs(parked, is_prime(row), row)

    def test_one_car(self):
        self.assertEqual([True, True, (0,), (0,), 0, [0], True, (0,)],
                         [ask((0,)) for ask in (are_wishes, is_parked, spots_of, cars_at, displacement, lucky_cars,
                                                is_prime, put_in_order)])

    def test_twelve_cars(self):
        same, back = (0,) * 12, tuple(range(11, -1, -1))
        mixed = (3, 3, 0, 9, 0, 3, 1, 11, 0, 8, 8, 2)
        self.assertEqual([tuple(range(12)), back], [spots_of(same), spots_of(back)])
        self.assertEqual((3, 4, 0, 9, 1, 5, 2, 11, 6, 8, 10, 7), spots_of(mixed))
        self.assertEqual((2, 4, 6, 0, 1, 5, 8, 11, 9, 3, 10, 7), cars_at(mixed))
        self.assertEqual([66, 0, 18], [displacement(row) for row in (same, back, mixed)])
        self.assertEqual([0, 2, 3, 7, 9], lucky_cars(mixed))
        self.assertEqual([True, False, False], [is_prime(row) for row in (same, back, mixed)])
        self.assertEqual((0, 0, 0, 1, 2, 3, 3, 3, 8, 8, 9, 11), put_in_order(mixed))
        self.assertEqual([True, True, False, False],
                         [are_wishes((11,) * 12), are_wishes(same), are_wishes((12,) * 12), are_wishes((0,) * 13)])
        self.assertEqual([False, True, False], [is_parked((11,) * 12), is_parked(mixed), is_parked((0,) * 13)])

    def test_any_value(self):
        for value in NO_TUPLES + [()]:
            self.assertIs(False, are_wishes(value), value)
        for value in NO_ROWS:
            self.assertIs(False, is_parked(value), value)

    def test_wrong_rows(self):
        check_wrong(self, [(function, [P], [(InvalidRow, NO_ROWS)]) for function in
                           (spots_of, cars_at, displacement, lucky_cars, is_prime, put_in_order)])

    def test_new_lists(self):
        check_new(self, [(lucky_cars, [P])])
