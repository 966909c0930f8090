"""Tests of parkedrows.tablecounts: [32] to [34], [37], [73]."""

import itertools
import math
import unittest

from parkedrows.errors import InvalidFilled, InvalidNumber, InvalidPlaces, InvalidTable
from parkedrows.tablecounts import (count_filling, count_homes, home_ranges, homes_by_cost, homes_by_lots, homes_for,
                                    total_cost, total_miss)
from tests.helper import (HUGE, NO_TUPLES, check_limits, check_new, check_wrong, homes_tried, lay_by_turn, nested,
                          out_of, run_examples, tally)
from tests.test_tablefills import NO_TABLES

EXAMPLES = """
    >>> [homes_for((1, 2, None, 0)), home_ranges((2, None, 0, 1, 3, None)), count_homes((2, None, 0, 1, 3, None)), count_filling(6, (0, 2, 3, 4)), count_filling(6, (0, 5)), count_filling(6, ())]
    [[(3, 0, 0), (3, 0, 1), (3, 0, 3), (3, 3, 0), (3, 3, 1), (3, 3, 3)], ((2, 1), (2, 2), (0, 1), (2, 3)), 6, 64, 3, 1]
    >>> [homes_by_cost(3, 2), homes_by_cost(4, 3), homes_by_cost(5, 3), homes_by_cost(1, 0), homes_by_lots(4, 2), homes_by_lots(5, 3), homes_by_lots(1, 0), total_cost(4, 3), total_miss(4, 2)]
    [(6, 3), (24, 24, 12, 4), (60, 45, 15, 5), (1,), (0, 12, 4), (0, 80, 45), (1,), 60, 44]
"""

# Of six places, right are (0, 2, 3, 4) and such.
NO_FILLED = NO_TUPLES + [(6,), (0, 6), (0, 0), (1, 0), (0, 2, 1), (0, 1, 1), (0, 1, 2, 3, 4, 5), (0, 1, 2, 3, 4, 5, 6),
                         (-1, 0), (0, True), (False, 2), (0, None), (0, "2"), [0, 2, 3, 4], (0, HUGE), ((0, 2),),
                         nested(tuple, (0, 2)), (5, 4)]

STEPS = (0, 1, 2, 3, 4, 5, 6, 7, 8, 9, 10, None)
MIXED = (3, 4, None, 0, 2, 5, 1, None, 7, None, 6, 8)


def few_places():
    """Pairs of few places and of so many things that all their homes can be gone through."""
    return [(places, many) for places in (1, 2, 3, 4, 5) for many in range(places)] + [(6, 3), (7, 2), (9, 3)]


def by_table(places, many):
    """The dict of the list of all homes for each table of so many things, all there."""
    found = {}
    for homes in homes_tried(places, many):
        found.setdefault(lay_by_turn(places, homes, range(many))[0], []).append(homes)
    return found


def lots_counted(places, table):
    """How many places of a table are filled, and the one ahead of them, round the ring, is free."""
    return len([place for place in range(places) if table[place] is not None and table[place - 1] is None])


class TestTableCounts(unittest.TestCase):
    def test_examples(self):
        run_examples(self, EXAMPLES, "tablecounts")

    def test_homes_of_tables(self):
        for places, many in few_places():
            tables = by_table(places, many)
            for table, homes in tables.items():
                self.assertEqual(homes, homes_for(table))
                self.assertEqual(len(homes), count_homes(table))
                ranges = home_ranges(table)
                self.assertIsInstance(ranges, tuple)
                each = [sorted((first + at) % places for at in range(own)) for first, own in ranges]
                self.assertEqual([sorted({some[thing] for some in homes}) for thing in range(many)], each)
                # Told from the first one on, which lies as many places ahead of the thing's own.
                self.assertEqual([table.index(thing) for thing in range(many)],
                                 [(first + own - 1) % places for first, own in ranges])

    def test_great_tables(self):
        self.assertEqual([math.factorial(11), tuple((0, at + 1) for at in range(11))],
                         [count_homes(STEPS), home_ranges(STEPS)])
        self.assertEqual([((3, 1), (6, 1), (3, 2), (0, 1), (0, 2), (3, 3), (10, 1), (8, 1), (10, 2)), 24],
                         [home_ranges(MIXED), count_homes(MIXED)])
        self.assertEqual([1, ()], [count_homes((None,) * 12), home_ranges((None,) * 12)])
        six = (2, 3, 4, 5, None, None, None, None, None, None, 0, 1)
        self.assertEqual([720, 720], [count_homes(six), len(homes_for(six))])
        for homes in homes_for(six):
            self.assertEqual(six, lay_by_turn(12, homes, range(6))[0])
        self.assertEqual(sorted(set(homes_for(six))), homes_for(six))

    def test_filling(self):
        for places, many in few_places():
            found = tally(tuple(place for place in range(places)
                                if lay_by_turn(places, homes, range(many))[0][place] is not None)
                          for homes in homes_tried(places, many))
            for filled in itertools.combinations(range(places), many):
                self.assertEqual(found.get(filled, 0), count_filling(places, filled))
        self.assertEqual([12 ** 10, 1, 1, 3, 12 ** 10], [count_filling(12, tuple(range(11))), count_filling(12, ()),
                                                         count_filling(1, ()), count_filling(12, (0, 11)),
                                                         count_filling(12, (0, 1, 2, 3, 4, 6, 7, 8, 9, 10, 11))])
        for many in range(12):
            self.assertEqual(12 ** many, sum(count_filling(12, filled)
                                             for filled in itertools.combinations(range(12), many)))

    def test_costs_and_lots(self):
        for places, many in few_places():
            tables = [lay_by_turn(places, homes, range(many)) for homes in homes_tried(places, many)]
            costs = tally(sum(steps.values()) for _, steps in tables)
            lots = tally(lots_counted(places, table) for table, _ in tables)
            for counts, found in ((costs, homes_by_cost(places, many)), (lots, homes_by_lots(places, many))):
                self.assertIsInstance(found, tuple)
                self.assertEqual([counts.get(number, 0) for number in range(max(counts) + 1)], list(found))
            self.assertEqual(sum(sum(steps.values()) for _, steps in tables), total_cost(places, many))
            missed = 0
            for table, _ in tables:
                for home in range(places):
                    while table[home % places] is not None:
                        home, missed = home + 1, missed + 1
            self.assertEqual(missed, total_miss(places, many), (places, many))

    def test_sums(self):
        for places in range(1, 13):
            for many in range(places):
                costs, lots = homes_by_cost(places, many), homes_by_lots(places, many)
                self.assertEqual([places ** many, places ** many], [sum(costs), sum(lots)])
                self.assertEqual(sum(cost * ways for cost, ways in enumerate(costs)), total_cost(places, many))
                self.assertEqual([many * (many - 1) // 2, min(many, places - many)], [len(costs) - 1, len(lots) - 1])
                # One thing more has all homes: for each the things ahead cost as much, and it has what it misses.
                if many + 1 < places:
                    self.assertEqual(total_cost(places, many + 1), places * total_cost(places, many)
                                     + total_miss(places, many))

    def test_sixty_places(self):
        self.assertEqual([0, 0, 60, 0, 60 * 60 + 60], [total_cost(60, 0), total_cost(60, 1), total_cost(60, 2),
                                                       total_miss(60, 0), total_cost(60, 2) + 60 * total_miss(60, 1)])
        for many in range(59):
            self.assertEqual(total_cost(60, many + 1), 60 * total_cost(60, many) + total_miss(60, many))
        # Where just one place is free, one thing more has from all places together the steps 0 to 59.
        self.assertEqual(60 ** 59 * (60 * 59 // 2), total_miss(60, 59))
        self.assertEqual([0, 0, 1 * 2], [total_cost(1, 0), total_miss(1, 0), total_miss(2, 1)])
        self.assertEqual(sum(cost * ways for cost, ways in enumerate(homes_by_cost(12, 11))), total_cost(12, 11))

    def test_greatest(self):
        self.assertEqual([12, 56], [homes_by_cost(12, 11)[-1], len(homes_by_cost(12, 11))])
        self.assertEqual([(0, 12 ** 11), math.factorial(12) // math.factorial(6)],
                         [homes_by_lots(12, 11), homes_by_cost(12, 6)[0]])
        self.assertEqual((12 * 11 // 2 * 2, 12), (homes_by_cost(12, 2)[0], homes_by_cost(12, 2)[1]))

    def test_limits(self):
        seven = (0, 1, 2, 3, 4, 5, 6, None)
        check_limits(self, [(homes_for, [seven[:6] + (None,)], [seven], 6), (homes_for, [(None,)], [STEPS], 6)])

    def test_wrong_arguments(self):
        check_wrong(self, [(function, [(1, 2, None, 0)], [(InvalidTable, NO_TABLES)])
                           for function in (homes_for, home_ranges, count_homes)])
        check_wrong(self, [(count_filling, [6, (0, 2, 3, 4)], [(InvalidPlaces, out_of(1, 12)),
                                                               (InvalidFilled, NO_FILLED)])])
        check_wrong(self, [(function, [most, most - 1], [(InvalidPlaces, out_of(1, most)),
                                                         (InvalidNumber, out_of(0, most - 1))])
                           for function, most in ((homes_by_cost, 12), (homes_by_lots, 12), (total_cost, 60),
                                                  (total_miss, 60))])
        for function in (homes_by_cost, homes_by_lots, total_cost, total_miss):
            check_wrong(self, [(function, [1, 0], [(InvalidPlaces, [0, 61]), (InvalidNumber, out_of(0, 0))])])

    def test_new_lists(self):
        check_new(self, [(homes_for, [(1, 2, None, 0)])])
