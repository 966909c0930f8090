"""Tests of parkedrows.loadgroup: [18], [19], [61], [62]."""

import itertools
import unittest

from parkedrows.errors import InvalidCars, InvalidLoad, InvalidNumber, Unlike
from parkedrows.loadgroup import (akin_load, akin_lots, akin_row, are_akin, load_opposite, load_order, load_sum,
                                  load_times, neutral_load)
from tests.helper import (NO_TUPLES, check_new, check_wrong, loads_again, nested, out_of, raised, rows_driven,
                          run_examples, spill_by_spill)
from tests.test_burning import NO_AGAIN
from tests.test_loads import NO_LOADS

EXAMPLES = """
    >>> G, H, N, B = (1, 2, 2), (0, 2, 2), (1, 1, 1), (5, 0, 1)
    >>> [neutral_load(3), load_sum(G, G), load_opposite(G), load_sum(G, load_opposite(G)), load_times(G, 2), load_times(G, -1), load_times(G, 10 ** 30), load_order(G), load_order((2, 2, 2)), load_order(load_sum(G, G)), neutral_load(1)]
    [(2, 2, 2), (0, 2, 2), (2, 1, 1), (2, 2, 2), (0, 2, 2), (2, 1, 1), (2, 2, 2), 4, 1, 2, (0,)]
    >>> [are_akin(G, H), are_akin(B, (2, 1, 2)), are_akin(N, (0, 0, 0)), akin_row(G), akin_row(B), akin_row((0, 0, 7)), akin_load(N), akin_load(B), akin_lots((G, N, B, (0, 0, 0), (4, 1, 1)))]
    [False, True, True, (0, 1, 1), (1, 0, 1), (1, 1, 0), (2, 2, 2), (2, 1, 2), [[0, 4], [1, 3], [2]]]
"""

# A tuple of loads may be empty, or have one load of one corner.
NO_LOT = [value for value in NO_TUPLES if value not in ((), ((0,),))] + \
         [((0,), (0, 0)), ((1, 2, 2), (5, 0)), ((0,), [0]), [(0,), (0,)], ((0,), ()), ((0,), (1001,)), ((0,), (-1,)),
          ((0,), (True,)), ((0,), None), ((0,),) * 61, ((0,),) * 500, nested(tuple, 0), ((0,), 0), ((),),
          ((0,) * 13,), ((1, 2), (3, 4), (5, 6, 7)), ((0,), (0,), (10 ** 119,))]

TIMES = 10 ** 30


def added(one, other):
    """The sum of two loads, settled spill by spill."""
    return spill_by_spill([many + more for many, more in zip(one, other)], max)[0]


def spillings(corners):
    """All differences that come of few spillings and of spillings taken back, as keys of a dict."""
    found = {}
    for times in itertools.product(range(-5, 6), repeat=corners):
        found[tuple(sum(times) - (corners + 1) * own for own in times)] = times
    return found


def small_loads(corners):
    """Loads with so few grains that those that are akin are so by few spillings."""
    return list(itertools.product(range({1: 6, 2: 6, 3: 5}[corners]), repeat=corners))


class TestLoadGroup(unittest.TestCase):
    def test_examples(self):
        run_examples(self, EXAMPLES, "loadgroup")

    def test_sums(self):
        for corners in (1, 2, 3):
            loads = loads_again(corners)
            neutral, = [some for some in loads if all(added(some, load) == load for load in loads)]
            self.assertEqual(neutral, neutral_load(corners))
            for one in loads:
                for other in loads:
                    self.assertEqual(added(one, other), load_sum(one, other))
                opposite, = [other for other in loads if added(one, other) == neutral]
                self.assertEqual(opposite, load_opposite(one))

    def test_times_and_orders(self):
        for corners in (1, 2, 3, 4):
            neutral = neutral_load(corners)
            for load in loads_again(corners):
                row = [neutral]
                while len(row) == 1 or row[-1] != neutral:
                    row.append(added(row[-1], load))
                order = len(row) - 1
                self.assertEqual(order, load_order(load))
                for times in range(-7, 8):
                    self.assertEqual(row[times % order], load_times(load, times))
                for times in (TIMES, TIMES - 1, -TIMES, 1 - TIMES, 10 ** 29 + 7):
                    self.assertEqual(row[times % order], load_times(load, times))

    def test_akin_by_spillings(self):
        for corners in (1, 2, 3):
            differences = spillings(corners)
            for one, other in itertools.product(small_loads(corners), repeat=2):
                akin = tuple(more - many for many, more in zip(one, other)) in differences
                self.assertIs(akin, are_akin(one, other), (one, other))

    def test_what_is_akin(self):
        for corners in (1, 2, 3):
            rows, loads = rows_driven(corners), loads_again(corners)
            differences = spillings(corners)
            for load in small_loads(corners):
                row, = [some for some in rows if tuple(a - b for a, b in zip(some, load)) in differences]
                again, = [some for some in loads if tuple(a - b for a, b in zip(some, load)) in differences]
                self.assertEqual([row, again], [akin_row(load), akin_load(load)], load)

    def test_lots(self):
        loads = tuple(small_loads(3)[::3])[:60]
        self.assertEqual(42, len(loads))
        loads = loads + ((1000, 1000, 1000), (1000, 0, 0), (0, 1000, 4))
        lots = akin_lots(loads)
        self.assertEqual(list(range(45)), sorted(index for lot in lots for index in lot))
        self.assertEqual(sorted(sorted(lot) for lot in lots), lots)
        for one, other in itertools.combinations(range(45), 2):
            self.assertIs(are_akin(loads[one], loads[other]), any(one in lot and other in lot for lot in lots))

    def test_none_one_and_sixty_loads(self):
        self.assertEqual([[], [[0]], [[0]]], [akin_lots(()), akin_lots(((0,),)), akin_lots(((5, 0, 1),))])
        self.assertEqual([list(range(60))], akin_lots(((7,),) * 60))
        self.assertEqual([list(range(0, 60, 2)), list(range(1, 60, 2))], akin_lots(((0, 1), (1, 1)) * 30))

    def test_one_corner(self):
        self.assertEqual([(0,), (0,), (0,), (0,), (0,), 1, True, (0,), (0,)],
                         [neutral_load(1), load_sum((0,), (0,)), load_opposite((0,)), load_times((0,), 7),
                          load_times((0,), -TIMES), load_order((0,)), are_akin((0,), (999,)), akin_row((5,)),
                          akin_load((1000,))])

    def test_twelve_corners(self):
        full, load = (11,) * 12, (3, 11, 11, 10, 4, 5, 9, 11, 8, 7, 6, 11)
        self.assertEqual([full, full, load], [neutral_load(12), load_sum(full, full), load_sum(load, full)])
        self.assertEqual([added(load, load), full], [load_sum(load, load), load_sum(load, load_opposite(load))])
        self.assertEqual([13, 1], [load_order(load), load_order(full)])
        here = full
        for times in range(14):
            self.assertEqual([here] * 3, [load_times(load, times), load_times(load, times - 13 * 10 ** 28),
                                          load_opposite(load_times(load, -times))])
            here = added(here, load)
        less = tuple(grains - 3 for grains in load)
        self.assertEqual([True, True, False], [are_akin(*pair) for pair in (((1000,) * 12, full), (load, less),
                                                                            (load, full))])
        self.assertEqual([(0,) * 12, full], [akin_row((1000,) * 12), akin_load((1000,) * 12)])
        self.assertEqual(load, akin_load(load))

    def test_bounds_of_times(self):
        for times in (TIMES, -TIMES, 0):
            self.assertIsNone(raised(load_times, [(1, 2, 2), times]))
        for times in (TIMES + 1, -TIMES - 1):
            self.assertIs(InvalidNumber, raised(load_times, [(1, 2, 2), times]).__class__)

    def test_wrong_arguments(self):
        again, load = (InvalidLoad, NO_AGAIN), (InvalidLoad, NO_LOADS)
        check_wrong(self, [(function, [(1, 2, 2)], [again]) for function in (load_opposite, load_order)])
        check_wrong(self, [(function, [(5, 0, 1)], [load]) for function in (akin_row, akin_load)])
        check_wrong(self, [(load_sum, [(1, 2, 2), (2, 2, 2)], [again, again]),
                           (load_times, [(1, 2, 2), 5], [again, (InvalidNumber, out_of(-TIMES, TIMES))]),
                           (are_akin, [(5, 0, 1), (0, 0, 0)], [load, load]),
                           (neutral_load, [12], [(InvalidCars, out_of(1, 12))]),
                           (akin_lots, [((5, 0, 1), (0, 0, 0))], [(InvalidLoad, NO_LOT)])])

    def test_unlike_behind_all_others(self):
        for one, other in (((1, 2, 2), (1, 1)), ((0,), (1, 2, 2)), ((11,) * 12, (0,))):
            for function in (load_sum, are_akin):
                self.assertIs(Unlike, raised(function, [one, other]).__class__)
        for one, other in (((1, 2, 2), (0, 0)), ((0, 0), (1, 2, 2)), ((1, 1, 1), (1, 0)), ((1, 2, 2), (2, 2))):
            self.assertIs(InvalidLoad, raised(load_sum, [one, other]).__class__)
        for one, other in (((1, 2, 2), (0, 1001)), ((-1, 0), (1, 2, 2))):
            self.assertIs(InvalidLoad, raised(are_akin, [one, other]).__class__)

    def test_new_lists(self):
        check_new(self, [(akin_lots, [()]), (akin_lots, [((0, 1), (1, 1), (0, 1))])])
