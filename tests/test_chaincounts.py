"""Tests of parkedrows.chaincounts: [27], [29], [30], [71]."""

import itertools
import unittest

from parkedrows.chaincounts import count_begun, count_layers, count_partings, count_through, count_with
from parkedrows.errors import InvalidCars, InvalidExchange, InvalidNumber, InvalidParting, InvalidPoints
from tests.helper import (HUGE, NO_TUPLES, chains_tried, check_limits, check_wrong, exchanges_tried, is_fine,
                          lots_tried, nested, out_of, run_examples, tally)
from tests.test_partings import GREAT, MIXED, NEST, NO_PARTINGS, SINGLES, WHOLE, A

EXAMPLES = """
    >>> [[count_partings(4, lots) for lots in (0, 1, 2, 3, 4, 5)], count_layers(4, 1), count_layers(3, 2), count_through(((0, 3), (1, 2))), [count_begun(3, (0, b)) for b in (1, 2, 3)], count_through(((0, 1, 2, 3),)), [count_with(2, pair) for pair in ((0, 1), (0, 2), (1, 2))]]
    [[0, 1, 6, 6, 1, 0], 14, 12, 2, [3, 2, 3], 16, [2, 2, 2]]
"""

# What is no exchange of three cars, which have the points 0 to 3.
NO_EXCHANGE = NO_TUPLES + [(), (0,), (0, 1, 2), (1, 0), (3, 0), (0, 0), (2, 2), (0, 4), (3, 4), (-1, 1), (-1, 0), (0, True),
                           (False, 1), (True, 2), (0, None), (0, "1"), (0, (1,)), [0, 1], ((0, 1),), (0, HUGE),
                           nested(tuple, (0, 1)), (0, 12), (4, 5)]


def ways_down(lots, ways):
    """How many chains lead from the whole to these lots, by all partings one step less fine."""
    if len(lots) == 1:
        return 1
    if lots not in ways:
        found = set()
        for one, other in itertools.combinations(lots, 2):
            joined = tuple(sorted([lot for lot in lots if lot not in (one, other)] + [tuple(sorted(one + other))]))
            marks = {point: at for at, lot in enumerate(joined) for point in lot}
            word = [marks[point] for point in sorted(marks)]
            if not any(a == c != b == d for a, b, c, d in itertools.combinations(word, 4)):
                found.add(joined)
        ways[lots] = sum(ways_down(joined, ways) for joined in found)
    return ways[lots]


class TestChainCounts(unittest.TestCase):
    def test_examples(self):
        run_examples(self, EXAMPLES, "chaincounts")

    def test_partings_by_lots(self):
        for points in (2, 3, 4, 5, 6, 7):
            many = tally(len(lots) for lots in lots_tried(points))
            self.assertEqual([many.get(lots, 0) for lots in range(12)],
                             [count_partings(points, lots) for lots in range(12)])
        self.assertEqual([0, 1, 1, 0, 0], [count_partings(2, lots) for lots in (0, 1, 2, 3, 100)])
        self.assertEqual([0, 1, 1770, 1770, 1, 0, 0], [count_partings(60, lots) for lots in (0, 1, 2, 59, 60, 61, 100)])
        # All partings of sixty points, by the next number behind that of fifty-nine.
        less, many = [sum(count_partings(points, lots) for lots in range(101)) for points in (59, 60)]
        self.assertEqual(many * 61, less * 2 * 119)

    def test_layers(self):
        for points in (2, 3, 4, 5):
            every = lots_tried(points)
            # How many tuples end with each parting.
            ends = {lots: 1 for lots in every}
            for many in range(1, 21):
                self.assertEqual(sum(ends.values()), count_layers(points, many), (points, many))
                ends = {lots: sum(ends[other] for other in every if is_fine(other, lots)) for lots in every}
        for many, points in ((1, 6), (2, 6), (1, 7)):
            every = lots_tried(points)
            tuples = len(every) if many == 1 else sum(is_fine(one, other) for one in every for other in every)
            self.assertEqual(tuples, count_layers(points, many))
        self.assertEqual(sum(count_partings(60, lots) for lots in range(61)), count_layers(60, 1))
        self.assertEqual([2, 21], [count_layers(2, 1), count_layers(2, 20)])
        top, below = 1, 1
        for at in range(59):
            top, below = top * (60 * 21 - at), below * (at + 1)
        self.assertEqual(top // below // 60, count_layers(60, 20))

    def test_chains_through_partings(self):
        for points in (2, 3, 4, 5):
            many = tally(lots for chain in chains_tried(points) for lots in chain)
            self.assertEqual(many, {lots: count_through(lots) for lots in lots_tried(points)})

    def test_chains_through_great_partings(self):
        self.assertEqual([13 ** 11, 13 ** 11], [count_through(SINGLES), count_through(WHOLE)])
        # Down to the parting from the whole step by step; and up in all turns of the joinings within its lots.
        self.assertEqual(720 * ways_down(NEST, {}), count_through(NEST))
        # Within its lots 4 ** 2 and 3 chains and two single joinings, seven joinings at all.
        self.assertEqual(5040 // 12 * 48 * ways_down(MIXED, {}), count_through(MIXED))

    def test_begun(self):
        for cars in (1, 2, 3, 4):
            rows = exchanges_tried(cars)
            for pair in itertools.combinations(range(cars + 1), 2):
                self.assertEqual(len([row for row in rows if row[0] == pair]), count_begun(cars, pair))
        # Behind the first exchange the points fall apart into those from a to less than b, and the others.
        self.assertEqual([13 ** 0, 12 ** 10, 462 * 6 ** 4 * 7 ** 5, 12 ** 10],
                         [count_begun(1, (0, 1)), count_begun(12, (0, 1)), count_begun(12, (3, 9)),
                          count_begun(12, (0, 12))])
        self.assertEqual(13 ** 11, sum(count_begun(12, pair) for pair in itertools.combinations(range(13), 2)))

    def test_having(self):
        for cars in (1, 2, 3, 4):
            rows = exchanges_tried(cars)
            for pair in itertools.combinations(range(cars + 1), 2):
                self.assertEqual(len([row for row in rows if pair in row]), count_with(cars, pair))
        pairs = list(itertools.combinations(range(6), 2))
        self.assertEqual(5 * 6 ** 4, sum(count_with(5, pair) for pair in pairs))
        self.assertEqual([5 * count_begun(5, pair) for pair in pairs], [count_with(5, pair) for pair in pairs])

    def test_limits(self):
        check_limits(self, [(count_with, [5, (0, 5)], [6, (0, 6)], 5), (count_with, [1, (0, 1)], [12, (11, 12)], 5)])

    def test_wrong_arguments(self):
        points = [(function, [60, most], [(InvalidPoints, out_of(2, 60)), (InvalidNumber, out_of(least, most))])
                  for function, least, most in ((count_partings, 0, 100), (count_layers, 1, 20))]
        check_wrong(self, points)
        check_wrong(self, [(count_through, [A], [(InvalidParting, NO_PARTINGS)])])
        check_wrong(self, [(function, [3, (0, 3)], [(InvalidCars, out_of(1, 12)), (InvalidExchange, NO_EXCHANGE)])
                           for function in (count_begun, count_with)])
        # An exchange that is wrong is told ahead of too many cars.
        self.assertRaises(InvalidExchange, count_with, 6, (0, 7))
        self.assertEqual(4, len(GREAT))
