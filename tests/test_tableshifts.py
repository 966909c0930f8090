"""Tests of parkedrows.tableshifts: [32], [33], [36], [76]."""

import itertools
import unittest

from parkedrows.errors import InvalidHomes, InvalidPlace, InvalidPlaces, InvalidTable, InvalidThing
from parkedrows.tablefills import filled_places, table_of
from parkedrows.tableshifts import closed_up, freed_place, homes_with, homes_without, put_in
from tests.helper import (NO_INTEGERS, check_limits, check_wrong, lay_by_turn, out_of, present, raised, run_examples,
                          some_homes, tables_by_turns)
from tests.test_soundtables import NO_SOUND
from tests.test_tablefills import FULL, NO_HOMES, SPREAD

EXAMPLES = """
    >>> A, B = (2, 2, 0, 3), (5, 5, None, 5)
    >>> [homes_without(6, A, 0), freed_place(6, A, 0), freed_place(6, A, 2), closed_up(6, A, (2, None, 0, 1, 3, None), 0), homes_with(6, B, 2, 1), put_in(6, B, table_of(6, B), 2, 0)]
    [(None, 2, 0, 3), 4, 0, (2, None, 1, 3, None, None), (5, 5, 1, 5), (1, 3, 2, None, None, 0)]
"""

A, B = (2, 2, 0, 3), (5, 5, None, 5)
FIRST = (2, None, 0, 1, 3, None)
# What is no sound table of B; one of those that are none of A is one of B.
NO_SOUND_B = [value for value in NO_SOUND if value != (1, 3, None, None, None, 0)] + \
             [(1, 3, None, None, 0, None), FIRST, (1, None, 3, None, None, 0), (1, 2, None, None, None, 0)]
SOUND_B = (3, 0, None, None, None, 1)


def gone_through(places, homes, table, thing):
    """The tuple of what lies in all places when a gap is closed up place by place."""
    after, gap = list(table), table.index(thing)
    after[gap] = None
    for place in [place % places for place in range(gap + 1, gap + places)]:
        if table[place] is None:
            break
        # The places behind the gap up to this one, going round.
        behind = []
        while not behind or behind[-1] != place:
            behind.append((gap + 1 + len(behind)) % places)
        if homes[table[place]] not in behind:
            after[gap], after[place], gap = table[place], None, place
    return tuple(after)


class TestTableShifts(unittest.TestCase):
    def test_examples(self):
        run_examples(self, EXAMPLES, "tableshifts tablefills")

    def test_homes_without_and_freed_places(self):
        for places, homes in some_homes() + [(12, FULL), (12, SPREAD)]:
            for thing in present(homes):
                without = homes[:thing] + (None,) + homes[thing + 1:]
                self.assertEqual(without, homes_without(places, homes, thing))
                freed, = set(filled_places(places, homes)) - set(filled_places(places, without))
                self.assertEqual(freed, freed_place(places, homes, thing))

    def test_closed_up(self):
        for places, homes in some_homes()[::2]:
            for table in tables_by_turns(places, homes):
                for thing in present(homes):
                    after = closed_up(places, homes, table, thing)
                    self.assertEqual(gone_through(places, homes, table, thing), after)
                    self.assertIn(after, tables_by_turns(places, homes_without(places, homes, thing)))

    def test_put_in(self):
        for places, homes in some_homes()[::2]:
            for thing in [thing for thing in range(len(homes)) if homes[thing] is None]:
                for home in range(places):
                    if len(present(homes)) == places - 1:
                        continue
                    changed = homes_with(places, homes, thing, home)
                    self.assertEqual(homes[:thing] + (home,) + homes[thing + 1:], changed)
                    for table in tables_by_turns(places, homes):
                        turn = [turn for turn in itertools.permutations(present(homes))
                                if lay_by_turn(places, homes, turn)[0] == table][0]
                        after = put_in(places, homes, table, thing, home)
                        self.assertEqual(lay_by_turn(places, changed, turn + (thing,))[0], after)
                        self.assertEqual(table, closed_up(places, changed, after, thing))

    def test_twelve_places(self):
        full = table_of(12, FULL)
        self.assertEqual([(None,) + FULL[1:], 9, 9], [homes_without(12, FULL, 0), freed_place(12, FULL, 0),
                                                        freed_place(12, FULL, 10)])
        self.assertEqual([tuple(range(2, 11)) + (None, None, 1), full[:4] + tuple(range(6, 11)) + (None, None, 0),
                          full[:9] + (None, None, 0)], [closed_up(12, FULL, full, thing) for thing in (0, 5, 10)])
        table = table_of(12, SPREAD)
        for thing in present(SPREAD):
            self.assertEqual(gone_through(12, SPREAD, table, thing), closed_up(12, SPREAD, table, thing))
        self.assertEqual(FULL[:10] + (None, 3), homes_with(12, FULL[:10] + (None, None), 11, 3))

    def test_limits(self):
        two = (None, 0, 0)
        check_limits(self, [(homes_with, [4, two, 0, 3], [3, two, 0, 2], 2),
                            (homes_with, [2, (None,), 0, 0], [1, (None,), 0, 0], 0),
                            (homes_with, [12, (None, None) + (0,) * 10, 0, 3], [12, FULL, 11, 3], 11),
                            (put_in, [4, two, (1, 2, None, None), 0, 3], [3, two, (1, 2, None), 0, 2], 2),
                            (put_in, [2, (None,), (None, None), 0, 0], [1, (None,), (None,), 0, 0], 0)])
        # TooMany comes last.
        self.assertIs(InvalidThing, raised(homes_with, [3, two, 1, 2]).__class__)
        self.assertIs(InvalidPlace, raised(homes_with, [3, two, 0, 3]).__class__)
        self.assertIs(InvalidTable, raised(put_in, [3, two, (1, None, 2), 0, 2]).__class__)
        self.assertIs(InvalidPlace, raised(put_in, [3, two, (1, 2, None), 0, True]).__class__)

    def test_wrong_arguments(self):
        places, homes = (InvalidPlaces, out_of(1, 12)), (InvalidHomes, NO_HOMES)
        there, coming = (InvalidThing, out_of(0, 3) + [2]), (InvalidThing, out_of(0, 3) + [0, 1, 3])
        check_wrong(self, [(function, [6, B, 1], [places, homes, there]) for function in (homes_without, freed_place)])
        check_wrong(self, [(closed_up, [6, B, SOUND_B, 0], [places, homes, (InvalidTable, NO_SOUND_B), there]),
                           (homes_with, [6, B, 2, 1], [places, homes, coming, (InvalidPlace, out_of(0, 5))]),
                           (put_in, [6, B, SOUND_B, 2, 0], [places, homes, (InvalidTable, NO_SOUND_B), coming,
                                                            (InvalidPlace, out_of(0, 5))])])
        for value in NO_INTEGERS:
            self.assertIs(InvalidThing, raised(homes_without, [1, (None,), value]).__class__)
            self.assertIs(InvalidThing, raised(homes_with, [2, (), value, 0]).__class__)
        # An index below 0 is none, whatever stands at the end.
        for index in (-1, -2):
            self.assertIs(InvalidThing, raised(homes_with, [6, (None, None), index, 0]).__class__)
            self.assertIs(InvalidThing, raised(homes_without, [6, (1, 1), index]).__class__)
