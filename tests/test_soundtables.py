"""Tests of parkedrows.soundtables: [33], [35], [75]."""

import itertools
import math
import unittest

from parkedrows.errors import InvalidHomes, InvalidPlaces, InvalidTable
from parkedrows.soundtables import (count_sound, even_table, is_sound, is_turn_for, sound_tables, squares_of,
                                    turn_for)
from tests.helper import (HUGE, NO_ERROR, NO_TUPLES, check_limits, check_new, check_wrong, lay_by_turn, nested, out_of,
                          present, raised, run_examples, some_homes, tables_by_turns)
from tests.test_tablefills import FULL, NO_HOMES, SPREAD

EXAMPLES = """
    >>> A, B = (2, 2, 0, 3), (5, 5, None, 5)
    >>> [sound_tables(6, A), count_sound(6, B), even_table(6, A), squares_of(6, A, (2, None, 0, 1, 3, None)), squares_of(6, A, (2, None, 0, 3, 1, None)), is_turn_for(6, A, (2, None, 1, 3, 0, None), (1, 3, 0, 2)), is_turn_for(6, A, (2, None, 1, 3, 0, None), (1, 0, 3, 2))]
    [[(2, None, 0, 1, 3, None), (2, None, 0, 3, 1, None), (2, None, 1, 0, 3, None), (2, None, 1, 3, 0, None)], 6, (2, None, 0, 1, 3, None), 2, 4, True, False]
"""

A, B = (2, 2, 0, 3), (5, 5, None, 5)
TABLE = (2, None, 1, 3, 0, None)

# What is no sound table of A with six places.
NO_SOUND = NO_TUPLES + [(), (2, None, 0, 1, 3), (2, None, 0, 1, 3, None, None), (None,) * 6, (2, None, 3, 0, 1, None),
                        (2, None, 0, 1, None, 3), (None, 2, 0, 1, 3, None), (2, None, 0, 1, None, None),
                        (2, None, 0, 1, 1, None), (2, None, 0, 1, 4, None), (2, None, False, 1, 3, None),
                        (2, None, 0, True, 3, None), (2, False, 0, 1, 3, None), (2, None, 0, 1, 3, 2),
                        (2, 2, 0, 1, 3, None),
                        (2, None, 0, 1, (3,), None), (2, None, 0, 1, "3", None), [2, None, 0, 1, 3, None],
                        (2, None, 0, 1, -1, None), (2, None, HUGE, 1, 3, None), ((2, None, 0, 1, 3, None),),
                        (1, 3, None, None, None, 0), (0, None, 2, 1, 3, None), nested(tuple, TABLE)]
NO_TURNS = NO_TUPLES + [(), (1, 3, 0), (1, 3, 0, 2, 2), (1, 3, 0, 0), (1, 3, 0, 4), (True, 3, 0, 2), (1, 3, False, 2),
                        (1, 3, 0, None), (1, 3, 0, "2"), (1, 3, 0, (2,)), [1, 3, 0, 2], ((1, 3, 0, 2),), (1, 0, 3, 2),
                        (0, 1, 2, 3), (1, 3, HUGE, 2), (1, 3, -1, 2), nested(tuple, (1, 3, 0, 2)), (2, 0, 1, 3)]


def squares(places, homes, table):
    """The sum of the squares of all steps, and the greatest number of steps."""
    steps = [(table.index(thing) - homes[thing]) % places for thing in present(homes)]
    return sum(own ** 2 for own in steps), max(steps + [0])


class TestSoundTables(unittest.TestCase):
    def test_examples(self):
        run_examples(self, EXAMPLES, "soundtables")

    def test_tables_by_all_turns(self):
        for places, homes in some_homes():
            tables = tables_by_turns(places, homes)
            self.assertEqual(tables, sound_tables(places, homes), (places, homes))
            self.assertEqual(len(tables), count_sound(places, homes))
            for table in tables:
                self.assertIs(True, is_sound(places, homes, table))

    def test_which_are_sound(self):
        for places, homes in some_homes()[::9]:
            tables = tables_by_turns(places, homes)
            if places < 5:
                for value in itertools.product([None, 0, 1, 2, 3], repeat=places):
                    self.assertIs(value in tables, is_sound(places, homes, value), (places, homes, value))
        for value in NO_SOUND:
            self.assertIs(False, is_sound(6, A, value), value)

    def test_even_tables(self):
        for places, homes in some_homes():
            tables = tables_by_turns(places, homes)
            even = even_table(places, homes)
            self.assertIn(even, tables)
            every = [squares(places, homes, table) for table in tables]
            own = squares(places, homes, even)
            self.assertEqual((min(some for some, _ in every), min(most for _, most in every)), own)
            # In each lot those whose homes are less far from its first place, and of one home the lesser numbers.
            for place in range(places):
                thing, ahead = even[place], even[place - 1]
                if thing is not None and ahead is not None:
                    first = place
                    while even[first - 1] is not None:
                        first -= 1
                    far = [((homes[one] - first) % places, one) for one in (ahead, thing)]
                    self.assertEqual(sorted(far), far)

    def test_squares(self):
        for places, homes in some_homes():
            for table in tables_by_turns(places, homes):
                self.assertEqual(squares(places, homes, table)[0], squares_of(places, homes, table))

    def test_turns(self):
        for places, homes in some_homes()[::2]:
            things = present(homes)
            for table in tables_by_turns(places, homes):
                turn = turn_for(places, homes, table)
                self.assertIsInstance(turn, tuple)
                self.assertEqual(things, tuple(sorted(turn)))
                self.assertEqual(table, lay_by_turn(places, homes, turn)[0])
                for some in itertools.permutations(things):
                    self.assertIs(lay_by_turn(places, homes, some)[0] == table, is_turn_for(places, homes, table, some))
        for value in NO_TURNS:
            self.assertIs(False, is_turn_for(6, A, TABLE, value), value)

    def test_least_and_greatest(self):
        self.assertEqual([[(None,)], 1, (None,), 0, (), True, True, False],
                         [sound_tables(1, ()), count_sound(1, (None,)), even_table(1, ()), squares_of(1, (), (None,)),
                          turn_for(1, (None,), (None,)), is_turn_for(1, (), (None,), ()), is_sound(1, (), (None,)),
                          is_sound(1, (), (0,))])
        self.assertEqual([math.factorial(11), len(tables_by_turns(8, (7, 0, 2, 4, 0, 3, 0)))],
                         [count_sound(12, FULL), count_sound(8, (7, 0, 2, 4, 0, 3, 0))])
        even = even_table(12, FULL)
        self.assertEqual(tuple(range(1, 11)) + (None, 0), even)
        turned = (0,) + tuple(range(9, 0, -1)) + (None, 10)
        self.assertIs(True, is_sound(12, FULL, turned))
        self.assertEqual(sum(steps ** 2 for steps in range(11)), squares_of(12, FULL, turned))
        self.assertEqual((10, 0) + tuple(range(9, 0, -1)), turn_for(12, FULL, turned))
        self.assertIs(True, is_turn_for(12, FULL, turned, (10, 0, 9, 8, 7, 6, 5, 4, 3, 2, 1)))
        table, _ = lay_by_turn(12, SPREAD, present(SPREAD)[::-1])
        self.assertIs(True, is_sound(12, SPREAD, table))
        self.assertEqual(table, lay_by_turn(12, SPREAD, turn_for(12, SPREAD, table))[0])

    def test_limits(self):
        check_limits(self, [(sound_tables, [7, (0,) * 6], [8, (0,) * 7], 6),
                            (sound_tables, [12, (None,) * 6 + (0,) * 6], [12, FULL], 6)])
        self.assertEqual(720, len(sound_tables(7, (3,) * 6)))

    def test_wrong_arguments(self):
        places, homes = (InvalidPlaces, out_of(1, 12)), (InvalidHomes, NO_HOMES)
        check_wrong(self, [(function, [6, A], [places, homes]) for function in (sound_tables, count_sound, even_table)])
        check_wrong(self, [(function, [6, A, TABLE], [places, homes, (InvalidTable, NO_SOUND)])
                           for function in (squares_of, turn_for)])
        check_wrong(self, [(is_turn_for, [6, A, TABLE, ()], [places, homes, (InvalidTable, NO_SOUND), NO_ERROR]),
                           (is_sound, [6, A, TABLE], [places, homes, NO_ERROR])])
        self.assertIs(InvalidTable, raised(squares_of, [6, B, TABLE]).__class__)

    def test_new_lists(self):
        check_new(self, [(sound_tables, [6, A])])
