"""Tests of parkedrows.heldrows: [37], [38], [80]."""

import itertools
import math
import unittest

from parkedrows.errors import InvalidBounds
from parkedrows.heldrows import (are_bounds, count_held, count_held_rising, held_rising, held_rows, held_spread,
                                 is_held)
from tests.helper import (HUGE, NO_ERROR, NO_TUPLES, check_limits, check_new, check_wrong, rows_driven, run_examples)
from tests.test_spreads import spread_of

EXAMPLES = """
    >>> [are_bounds((2, 2, 5)), are_bounds((2, 1)), are_bounds((0, 1)), is_held((1, 3), (2, 0)), is_held((1, 3), (1, 2)), is_held((1, 3), (0,)), held_rows((1, 3)), held_rising((1, 3)), held_spread((1, 3))]
    [True, False, False, True, False, False, [(0, 0), (0, 1), (0, 2), (1, 0), (2, 0)], [(0, 0), (0, 1), (0, 2)], (1, 2, 2)]
    >>> [count_held(some) for some in ((1, 3), (2, 2), (1, 2, 3), (2, 5, 5), (10 ** 6,))], [count_held_rising(some) for some in ((1, 3), (2, 2), (1, 2, 3), (2, 5, 5))]
    ([5, 4, 16, 98, 1000000], [3, 3, 5, 25])
"""

NO_BOUNDS = NO_TUPLES + [(), (0,), (0, 1), (2, 1), (1, 3, 2), (5, 5, 4), (1,) * 13, (10 ** 6 + 1,), (1, 10 ** 6 + 1),
                         [2, 2], (1, True), (True, 2), (2, None), (2, (3,)), (2, "3"), (1, HUGE), (-1, 2), (1, 2, 0)]
NO_HELD = NO_TUPLES + [(), (0,), (1, 1), (1, 2), (3, 0), (0, 3), (0, 0, 0), [0, 0], (0, True), (True, 0), (-1, 0)]


def bounds_tried():
    """All bounds of one to four items, each at most 4, and some greater ones."""
    found = [bounds for many in (1, 2, 3, 4) for bounds in itertools.product(range(1, 5), repeat=many)
             if list(bounds) == sorted(bounds)]
    return found + [(7,), (2, 9), (6, 6), (1, 2, 8), (1, 1, 1, 1, 1, 2), (1, 2, 2, 3, 5)]


def held_tried(bounds):
    """The ascending list of all tuples that are held by bounds."""
    return [row for row in itertools.product(range(bounds[-1]), repeat=len(bounds))
            if all(item < bound for item, bound in zip(sorted(row), bounds))]


class TestHeldRows(unittest.TestCase):
    def test_examples(self):
        run_examples(self, EXAMPLES, "heldrows")

    def test_all_tuples(self):
        for bounds in bounds_tried():
            rows = held_tried(bounds)
            rising = [row for row in rows if list(row) == sorted(row)]
            self.assertEqual([rows, rising], [held_rows(bounds), held_rising(bounds)], bounds)
            self.assertEqual([len(rows), len(rising)], [count_held(bounds), count_held_rising(bounds)])
            self.assertEqual(spread_of(sum(row) for row in rows), held_spread(bounds))

    def test_which_are_held(self):
        for bounds in bounds_tried()[::5]:
            rows = set(held_tried(bounds))
            for row in itertools.product(range(-1, bounds[-1] + 2), repeat=len(bounds)):
                self.assertIs(row in rows, is_held(bounds, row), (bounds, row))
        for value in NO_HELD:
            self.assertIs(False, is_held((1, 3), value), value)

    def test_parked_rows(self):
        for cars in (1, 2, 3, 4, 5):
            self.assertEqual(rows_driven(cars), held_rows(tuple(range(1, cars + 1))))

    def test_which_are_bounds(self):
        for value in itertools.product((-1, 0, 1, 2, 5), repeat=3):
            self.assertIs(value[0] >= 1 and list(value) == sorted(value), are_bounds(value), value)
        for value in NO_BOUNDS:
            self.assertIs(False, are_bounds(value), value)
        for value in ((1,), (10 ** 6,) * 12, (1,) * 12, tuple(range(1, 13)), (1, 10 ** 6)):
            self.assertIs(True, are_bounds(value), value)

    def test_twelve_bounds(self):
        most = (10 ** 6,) * 12
        self.assertEqual([10 ** 72, math.comb(10 ** 6 + 11, 12)], [count_held(most), count_held_rising(most)])
        self.assertEqual([1, 1, [(0,) * 12], [(0,) * 12], (1,)],
                         [count_held((1,) * 12), count_held_rising((1,) * 12), held_rows((1,) * 12),
                          held_rising((1,) * 12), held_spread((1,) * 12)])
        self.assertEqual([13 ** 11, math.comb(24, 12) // 13],
                         [count_held(tuple(range(1, 13))), count_held_rising(tuple(range(1, 13)))])
        self.assertIs(True, is_held(most, (10 ** 6 - 1,) * 12))
        self.assertIs(False, is_held(most, (0,) * 11 + (10 ** 6,)))
        self.assertEqual(1 + 12 * (10 ** 6 - 1), count_held((1,) * 11 + (10 ** 6,)))

    def test_one_bound(self):
        self.assertEqual([10 ** 6, 10 ** 6, [(0,), (1,)], [(0,), (1,)], (1,) * 200],
                         [count_held((10 ** 6,)), count_held_rising((10 ** 6,)), held_rows((2,)), held_rising((2,)),
                          held_spread((200,))])

    def test_limits(self):
        check_limits(self, [(held_rows, [(2000,)], [(2001,)], 2000), (held_rising, [(2000,)], [(2001,)], 2000),
                            (held_rows, [(1, 1000)], [(1, 1001)], 2000), (held_rows, [(1, 1000)], [(44, 46)], 2000),
                            (held_rising, [(1, 2000)], [(1, 2001)], 2000),
                            (held_rising, [(1,) * 11 + (2000,)], [(10 ** 6,) * 12], 2000),
                            (held_spread, [(200,)], [(201,)], 200), (held_spread, [(1, 199)], [(2, 199)], 200),
                            (held_spread, [(16,) * 8 + (18,) * 4], [(16,) * 8 + (18,) * 3 + (19,)], 200)])

    def test_lists_of_two_thousand(self):
        self.assertEqual([1999, 2000, 2000, 1993],
                         [len(held_rows((1, 1000))), len(held_rows((2000,))), len(held_rising((1,) * 11 + (2000,))),
                          len(held_rows((1,) * 11 + (167,)))])
        for bounds in ((1, 1000), (1,) * 11 + (167,), (1, 1, 1, 1, 2, 3), (44, 44)):
            rows = held_rows(bounds)
            self.assertEqual(sorted(set(rows)), rows)
            self.assertEqual(count_held(bounds), len(rows))
            self.assertTrue(all(is_held(bounds, row) for row in rows))

    def test_greatest_spread(self):
        bounds = (16,) * 8 + (18,) * 4
        spread = held_spread(bounds)
        self.assertEqual([200 - 12 + 1, count_held(bounds), 1, 12],
                         [len(spread), sum(spread), spread[0], spread[1]])
        # As many of the twelve as are among the four have more than 15 at most.
        self.assertEqual(math.comb(12, 4), spread[-1])

    def test_wrong_arguments(self):
        bounds = (InvalidBounds, NO_BOUNDS)
        functions = (count_held, count_held_rising, held_rows, held_rising, held_spread)
        check_wrong(self, [(function, [(1, 3)], [bounds]) for function in functions])
        check_wrong(self, [(is_held, [(1, 3), (0, 0)], [bounds, NO_ERROR])])

    def test_new_lists(self):
        check_new(self, [(held_rows, [(1, 3)]), (held_rising, [(2, 5, 5)])])
