"""Tests of parkedrows.lots: [34], [74]."""

import itertools
import unittest

from parkedrows.errors import InvalidHomes, InvalidLots, InvalidNumber, InvalidPlaces
from parkedrows.lots import homes_of_rows, lot_rows, lots_of
from tests.helper import (HUGE, NO_TUPLES, check_new, check_wrong, drive, lay_by_turn, nested, out_of, present,
                          run_examples, some_homes)
from tests.test_tablefills import FULL, NO_HOMES, SPREAD

EXAMPLES = """
    >>> A, B = (2, 2, 0, 3), (5, 5, None, 5)
    >>> [lots_of(6, A), lots_of(6, B), lot_rows(6, A), lot_rows(6, B), homes_of_rows(6, 4, ((5, (0, 1, 3), (0, 0, 0)),)) == B]
    [[(0, 1), (2, 3)], [(5, 3)], [(0, (2,), (0,)), (2, (0, 1, 3), (0, 0, 1))], [(5, (0, 1, 3), (0, 0, 0))], True]
"""

A, B = (2, 2, 0, 3), (5, 5, None, 5)
LOT = ((5, (0, 1, 3), (0, 0, 0)),)

# Of six places and four things.
NO_LOTS = NO_TUPLES + [
    ((),), ((5,),), ((5, (0,)),), ((5, (0,), (0,), 0),), (5, (0,), (0,)), [(5, (0,), (0,))], ([5, (0,), (0,)],),
    ((5, [0], (0,)),), ((5, (0,), [0]),), ((5, (True,), (0,)),), ((True, (0,), (0,)),), ((5, (0,), (False,)),),
    ((5, (False,), (0,)),), ((None, (0,), (0,)),), ((5, None, (0,)),), ((5, (0,), None),), ((5, (None,), (0,)),),
    (("5", (0,), (0,)),), ((5, "0", (0,)),), ((6, (0,), (0,)),), ((-1, (0,), (0,)),), ((HUGE, (0,), (0,)),),
    ((5, (4,), (0,)),), ((5, (-1,), (0,)),), ((5, (HUGE,), (0,)),), ((5, (), ()),), ((5, (0,), ()),), ((5, (), (0,)),),
    ((5, (0, 1), (0,)),), ((5, (0,), (0, 0)),), ((5, (1, 0), (0, 0)),), ((5, (0, 0), (0, 0)),), ((5, (0,), (1,)),),
    ((5, (0, 1), (1, 1)),), ((5, (0, 1, 2), (0, 2, 2)),), ((5, (0, 1), (0, 2)),), ((5, (0, 1), (0, True)),),
    ((2, (0,), (0,)), (0, (1,), (0,))), ((2, (0,), (0,)), (2, (1,), (0,))), ((2, (0,), (0,)), (3, (1,), (0,))),
    ((0, (0,), (0,)), (5, (1,), (0,))), ((0, (0, 1), (0, 0)), (1, (2,), (0,))),
    ((0, (0, 1, 2), (0, 0, 0)), (3, (3,), (0,))),
    ((0, (0,), (0,)), (2, (0,), (0,))), ((0, (0, 1), (0, 0)), (3, (1, 2), (0, 0))), ((0, (0,), (0,)), None),
    ((0, (0,), (0,)), ()), ((0, (0,), (0,)),) * 2, LOT * 500, nested(tuple, LOT), (LOT,), LOT + (5, (0,), (0,)),
    ((4, (0,), (0,)), (5, (1,), (0,))), ((0, (0,), (0,)), (2, (1,), (0,)), (3, (2,), (0,)))]


def lots_looked(places, homes):
    """The list of the first place, and of the set of things, of each lot, looked for round the ring."""
    table = lay_by_turn(places, homes, present(homes))[0]
    found = []
    for first in range(places):
        if table[first] is not None and table[first - 1] is None:
            place, things = first, set()
            while table[place] is not None:
                things.add(table[place])
                place = (place + 1) % places
            found.append((first, things))
    return found


class TestLots(unittest.TestCase):
    def test_examples(self):
        run_examples(self, EXAMPLES, "lots")

    def test_lots_there_and_back(self):
        for places, homes in some_homes() + [(12, FULL), (12, SPREAD), (12, (None,) * 12), (12, ())]:
            looked = lots_looked(places, homes)
            self.assertEqual([(first, len(things)) for first, things in looked], lots_of(places, homes))
            triples = lot_rows(places, homes)
            self.assertEqual([(first, tuple(sorted(things))) for first, things in looked],
                             [(first, things) for first, things, _ in triples])
            for first, things, row in triples:
                self.assertEqual(tuple((homes[thing] - first) % places for thing in things), row)
                self.assertIsNotNone(drive(row))
            self.assertEqual(homes, homes_of_rows(places, len(homes), tuple(triples)))

    def test_all_tuples_of_lots(self):
        # Of four places and three things: which of all such tuples are those of some homes.
        triples = [(place, things, row) for place in range(4) for many in (1, 2, 3)
                   for things in itertools.combinations(range(3), many)
                   for row in itertools.product(range(3), repeat=many)]
        homes = [homes for homes in itertools.product([None, 0, 1, 2, 3], repeat=3)]
        known = {tuple(lot_rows(4, some)): some for some in homes}
        self.assertEqual(len(homes), len(known))
        for value in [(triple,) for triple in triples] + list(itertools.product(triples[::3], triples[::2])):
            if value in known:
                self.assertEqual(known[value], homes_of_rows(4, 3, value))
            else:
                self.assertRaises(InvalidLots, homes_of_rows, 4, 3, value)

    def test_least_and_greatest(self):
        self.assertEqual([[], [], (), (None,) * 12], [lots_of(1, ()), lot_rows(1, (None,)), homes_of_rows(1, 0, ()),
                                                      homes_of_rows(12, 12, ())])
        self.assertEqual([[(11, 11)], [(11, tuple(range(11)), (0,) * 11)]], [lots_of(12, FULL), lot_rows(12, FULL)])
        self.assertEqual(FULL, homes_of_rows(12, 12, ((11, tuple(range(11)), (0,) * 11),)))
        self.assertEqual(FULL[:11], homes_of_rows(12, 11, ((11, tuple(range(11)), (0,) * 11),)))
        whole = ((0, tuple(range(12)), (0,) * 12),)
        self.assertRaises(InvalidLots, homes_of_rows, 12, 12, whole)
        self.assertRaises(InvalidLots, homes_of_rows, 1, 1, ((0, (0,), (0,)),))
        self.assertEqual([(0, (0,), (0,)), (2, (1,), (0,)), (4, (2,), (0,)), (6, (3,), (0,)), (8, (4,), (0,)),
                          (10, (5,), (0,))], lot_rows(12, (0, 2, 4, 6, 8, 10)))

    def test_wrong_arguments(self):
        places = (InvalidPlaces, out_of(1, 12))
        check_wrong(self, [(function, [6, A], [places, (InvalidHomes, NO_HOMES)]) for function in (lots_of, lot_rows)])
        check_wrong(self, [(homes_of_rows, [6, 4, LOT], [places, (InvalidNumber, out_of(0, 12)),
                                                         (InvalidLots, NO_LOTS)])])
        self.assertRaises(InvalidLots, homes_of_rows, 5, 4, LOT)
        self.assertRaises(InvalidLots, homes_of_rows, 6, 3, LOT)

    def test_new_lists(self):
        check_new(self, [(lots_of, [6, A]), (lot_rows, [6, A])])
