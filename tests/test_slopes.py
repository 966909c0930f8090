"""Tests of parkedrows.slopes: [81]."""

import random
import unittest

from parkedrows.errors import InvalidCars, InvalidNumber
from parkedrows.heldrows import count_held
from parkedrows.slopes import count_sloped, parked_rest, prime_rest, sloped_rest
from tests.helper import check_wrong, out_of, rows_driven, run_examples
from tests.test_heldrows import held_tried

EXAMPLES = """
    >>> [count_sloped(1, 2, 2), count_sloped(1, 1, 3), count_sloped(2, 3, 3), count_sloped(5, 0, 2), sloped_rest(2, 3, 3, 100), parked_rest(3, 5), parked_rest(10 ** 30, 7), prime_rest(10 ** 30, 7), prime_rest(3, 100), prime_rest(1, 1)]
    [5, 16, 242, 25, 42, 1, 1, 0, 4, 0]
"""

FAR = 10 ** 30


class TestSlopes(unittest.TestCase):
    def test_examples(self):
        run_examples(self, EXAMPLES, "slopes")

    def test_all_tuples(self):
        for cars, first, step in ((1, 1, 0), (1, 4, 9), (2, 1, 5), (2, 3, 0), (3, 1, 1), (3, 2, 2), (4, 1, 1),
                                  (4, 2, 1)):
            bounds = tuple(first + step * at for at in range(cars))
            self.assertEqual(len(held_tried(bounds)), count_sloped(first, step, cars))

    def test_held_rows(self):
        for cars in range(1, 13):
            for first, step in ((1, 0), (1, 1), (3, 7), (1, 10 ** 4), (10 ** 5, 10 ** 4)):
                self.assertEqual(count_held(tuple(first + step * at for at in range(cars))),
                                 count_sloped(first, step, cars))

    def test_greatest_ones(self):
        most = 10 ** 6
        self.assertEqual([most * (13 * most) ** 11, most ** 12, (12 * most + 1) ** 11, 1, most],
                         [count_sloped(most, most, 12), count_sloped(most, 0, 12), count_sloped(1, most, 12),
                          count_sloped(1, 0, 12), count_sloped(most, most, 1)])

    def test_rests_of_few_cars(self):
        for cars in range(1, 13):
            for modulus in (1, 2, 3, 4, 6, 9, 12, 13, 100, 2 ** 40, FAR - 1, FAR):
                self.assertEqual((cars + 1) ** (cars - 1) % modulus, parked_rest(cars, modulus))
                self.assertEqual((cars - 1) ** (cars - 1) % modulus, prime_rest(cars, modulus))
                for first, step in ((1, 0), (5, 3), (10 ** 6, 10 ** 6)):
                    self.assertEqual(count_sloped(first, step, cars) % modulus,
                                     sloped_rest(first, step, cars, modulus))

    def test_rests_of_all_rows(self):
        for cars in (1, 2, 3, 4, 5):
            rows = rows_driven(cars)
            prime = [row for row in rows if all(sum(wish < spot for wish in row) > spot for spot in range(1, cars))]
            for modulus in (1, 2, 7, 1000, FAR):
                self.assertEqual([len(rows) % modulus, len(prime) % modulus],
                                 [parked_rest(cars, modulus), prime_rest(cars, modulus)])

    def test_rests_of_many_cars(self):
        draw = random.Random(81)
        moduli = [1, 2, 3, 10, 64, 10 ** 9 + 7, 2 ** 89 - 1, 3 ** 60, FAR - 1, FAR]
        for cars in [FAR, FAR - 1, 2 ** 99, 61] + [draw.randint(1, FAR) for _ in range(20)]:
            for modulus in moduli + [draw.randint(1, FAR) for _ in range(5)]:
                self.assertEqual(pow(cars + 1, cars - 1, modulus), parked_rest(cars, modulus))
                self.assertEqual(pow(cars - 1, cars - 1, modulus), prime_rest(cars, modulus))
                first, step = draw.randint(1, 10 ** 6), draw.randint(0, 10 ** 6)
                self.assertEqual(first * pow(first + cars * step, cars - 1, modulus) % modulus,
                                 sloped_rest(first, step, cars, modulus))

    def test_moduli_that_divide(self):
        # The base and the modulus have divisors in common, or are the same but for a multiple.
        for cars, modulus in ((FAR - 1, FAR), (FAR - 1, 2 ** 30), (5 ** 40 - 1, 5 ** 39), (11, 12)):
            self.assertEqual([0, pow(cars - 1, cars - 1, modulus)],
                             [parked_rest(cars, modulus), prime_rest(cars, modulus)])
        self.assertEqual([0, 0], [prime_rest(FAR, FAR - 1), sloped_rest(10 ** 6, 0, FAR, FAR)])

    def test_the_modulus_one(self):
        self.assertEqual([0] * 5, [parked_rest(1, 1), prime_rest(1, 1), parked_rest(FAR, 1), prime_rest(FAR, 1),
                                   sloped_rest(1, 0, 1, 1)])
        self.assertEqual([1, 1, 3], [parked_rest(1, 2), prime_rest(1, 2), sloped_rest(3, 9, 1, 5)])

    def test_wrong_arguments(self):
        first, step = (InvalidNumber, out_of(1, 10 ** 6)), (InvalidNumber, out_of(0, 10 ** 6))
        far, modulus = (InvalidCars, out_of(1, FAR)), (InvalidNumber, out_of(1, FAR))
        check_wrong(self, [(count_sloped, [1, 0, 12], [first, step, (InvalidCars, out_of(1, 12))]),
                           (count_sloped, [10 ** 6, 10 ** 6, 1], [first, step, (InvalidCars, [0, 13])]),
                           (sloped_rest, [10 ** 6, 10 ** 6, FAR, FAR], [first, step, far, modulus]),
                           (parked_rest, [FAR, FAR], [far, modulus]), (prime_rest, [1, 1], [far, modulus])])
