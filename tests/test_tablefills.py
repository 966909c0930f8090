"""Tests of parkedrows.tablefills: [32], [33], [72]."""

import itertools
import unittest

from parkedrows.errors import InvalidHomes, InvalidPlace, InvalidPlaces, InvalidRow, TooMany
from parkedrows.tablefills import (are_homes, cost_of, filled_places, is_table, place_for, steps_of, table_of)
from tests.helper import (HUGE, NO_ERROR, check_new, check_wrong, lay_by_turn, nested, out_of, present, raised,
                          run_examples, some_homes)

EXAMPLES = """
    >>> A, B = (2, 2, 0, 3), (5, 5, None, 5)
    >>> [are_homes(6, A), are_homes(3, (0, 1, 2)), are_homes(3, (0, None, 2)), are_homes(1, ()), are_homes(6, (6,)), is_table((1, 2, None, 0)), is_table((1, 0)), is_table((None, 1))]
    [True, False, True, True, False, True, False, False]
    >>> [table_of(6, A), table_of(6, B), steps_of(6, A), steps_of(6, B), cost_of(6, B), filled_places(6, A), place_for(6, A, 2), place_for(6, B, 5), place_for(6, B, 4)]
    [(2, None, 0, 1, 3, None), (1, 3, None, None, None, 0), (0, 1, 0, 1), (0, 1, None, 2), 3, [0, 2, 3, 4], 5, 2, 4]
"""

A, B = (2, 2, 0, 3), (5, 5, None, 5)
FULL = (11,) * 11 + (None,)
SPREAD = (0, 2, 4, 6, 8, 10, None, None, 0, 3, 11, 0)

# What can't be part of homes, or of a table, and what is none at all.
NO_ITEMS = [None, True, False, 0, 6, -1, HUGE, "", "0", "None", [], [0], [0, 1], [None], (True,), (False,),
            (0, True), (None, False), (0, "1"), ("None",), (0, [1]), (0, (1,)), ((0,),), ((),), ([None],), (-1,),
            (0, -1), (HUGE,), (0, -HUGE), (0,) * 500, (None,) * 500, tuple(range(500)), nested(tuple, 0),
            nested(tuple, None), nested(list, 0), InvalidRow("x"), (TooMany(3),), (None, TooMany(3))]
NO_HOMES = NO_ITEMS + [(6,), (0, 6), (0, 1, 2, 3, 4, 5), (5,) * 6, (0, 0, 0, 0, 0, None, 0), (None,) * 13,
                       (0,) * 13, [2, 2, 0, 3], (2, 2, 0, None, True), (2, 2, "0"), (12,)]
NO_TABLES = NO_ITEMS + [(), (0,), (1,), (0, 1), (1, 0), (None, 1), (1, None), (0, 0, None), (0, 2, None), (1, 2, None),
                        (0, 1, 2, 2, None), (3, 1, 0, None), (None, 0, -1), (None,) * 13, (None, 0) * 6, [None, 0],
                        tuple(range(12)), (None,) + tuple(range(12)), (0, None, True), (None, False)]


class TestTableFills(unittest.TestCase):
    def test_examples(self):
        run_examples(self, EXAMPLES, "tablefills")

    def test_which_are_homes(self):
        for places in (1, 2, 3):
            for things in range(5):
                for value in itertools.product([None, 0, 1, 2, 3], repeat=things):
                    there = [home for home in value if home is not None]
                    right = len(there) < places and all(home < places for home in there)
                    self.assertIs(right, are_homes(places, value), (places, value))
        for places in range(1, 13):
            self.assertIs(True, are_homes(places, (None,) * 12) and are_homes(places, ()))
            self.assertIs(True, are_homes(places, (places - 1,) * (places - 1)))
            self.assertIs(False, are_homes(places, (places - 1,) * places))
        self.assertIs(True, are_homes(12, FULL) and are_homes(12, SPREAD))
        for value in NO_HOMES:
            self.assertIs(False, are_homes(6, value), value)

    def test_which_are_tables(self):
        for places in (1, 2, 3, 4):
            for value in itertools.product([None, 0, 1, 2, 3], repeat=places):
                things = sorted(thing for thing in value if thing is not None)
                self.assertIs(len(things) < places and things == list(range(len(things))), is_table(value), value)
        self.assertIs(True, is_table((None,) * 12) and is_table((None,) + tuple(range(11))))
        for value in NO_TABLES:
            self.assertIs(False, is_table(value), value)

    def test_things_laid_one_after_another(self):
        for places, homes in some_homes() + [(12, FULL), (12, SPREAD), (12, (None,) * 12), (12, ())]:
            table, steps = lay_by_turn(places, homes, present(homes))
            self.assertEqual(table, table_of(places, homes), (places, homes))
            self.assertEqual(tuple(steps.get(thing) for thing in range(len(homes))), steps_of(places, homes))
            self.assertEqual(sum(steps.values()), cost_of(places, homes))
            self.assertEqual([place for place in range(places) if table[place] is not None],
                             filled_places(places, homes))
            for home in range(places):
                place = home
                while table[place] is not None:
                    place = 0 if place == places - 1 else place + 1
                self.assertEqual(place, place_for(places, homes, home))

    def test_the_same_in_whatever_turn(self):
        for places, homes in some_homes():
            filled, cost = filled_places(places, homes), cost_of(places, homes)
            for turn in itertools.permutations(present(homes)):
                table, steps = lay_by_turn(places, homes, turn)
                self.assertEqual(filled, [place for place in range(places) if table[place] is not None])
                self.assertEqual(cost, sum(steps.values()))

    def test_least_and_greatest(self):
        self.assertEqual([(None,), (), 0, [], 0], [table_of(1, ()), steps_of(1, ()), cost_of(1, ()),
                                                   filled_places(1, ()), place_for(1, (), 0)])
        self.assertEqual([(None,), (None, None), 0], [table_of(1, (None, None)), steps_of(1, (None, None)),
                                                      cost_of(1, (None, None))])
        self.assertEqual([tuple(range(1, 11)) + (None, 0), 55, 10],
                         [table_of(12, FULL), cost_of(12, FULL), place_for(12, FULL, 11)])
        self.assertEqual(tuple(range(11)) + (None,), steps_of(12, FULL))

    def test_wrong_arguments(self):
        places = (InvalidPlaces, out_of(1, 12))
        check_wrong(self, [(function, [6, A], [places, (InvalidHomes, NO_HOMES)])
                           for function in (table_of, steps_of, cost_of, filled_places)])
        check_wrong(self, [(place_for, [6, B, 5], [places, (InvalidHomes, NO_HOMES), (InvalidPlace, out_of(0, 5))]),
                           (are_homes, [6, A], [places, (None, NO_HOMES)]), (is_table, [A], [NO_ERROR])])
        self.assertIs(InvalidHomes, raised(table_of, [3, (0, 1, 2)]).__class__)
        self.assertIs(InvalidHomes, raised(table_of, [4, (4,)]).__class__)
        self.assertIs(InvalidPlace, raised(place_for, [4, (3,), 4]).__class__)

    def test_new_lists(self):
        check_new(self, [(filled_places, [6, A])])
