"""Tests of parkedrows.burning: [17], [58], [59]."""

import unittest

from parkedrows.burning import (burning_rounds, comes_again, load_level, load_of_row, made_again, row_of_load,
                                steps_again, stuck_corners, turned_load)
from parkedrows.errors import InvalidLoad, InvalidRow
from tests.helper import (P, check_new, check_wrong, few_rows, is_same_again, loads_again, raised, rows_driven,
                          run_examples, settled_loads, spill_by_spill)
from tests.test_loads import NO_LOADS, some_loads
from tests.test_rows import NO_ROWS

EXAMPLES = """
    >>> G, H, N, B = (1, 2, 2), (0, 2, 2), (1, 1, 1), (5, 0, 1)
    >>> [[comes_again(some) for some in (G, H, N, B)], burning_rounds(G), burning_rounds(H), burning_rounds(N), burning_rounds((0, 2, 0)), burning_rounds((2, 1, 0)), turned_load(N), row_of_load(G) == P, load_of_row(U), load_of_row(L)]
    [[True, True, False, False], (2, 1, 1), (2, 1, 1), (None, None, None), (None, 1, None), (1, 2, 3), (1, 1, 1), True, (2, 1, 0), (2, 2, 2)]
    >>> [load_level(load_of_row(some)) for some in (P, U, L, W)]
    [2, 0, 3, 3]
    >>> [stuck_corners(N), stuck_corners((0, 2, 0)), stuck_corners(G), made_again(N), steps_again(N), made_again((0, 0, 0)), steps_again((0, 0, 0)), made_again(G) == G, steps_again(B)]
    [[1, 2, 3], [1, 3], [], (2, 2, 2), 1, (2, 2, 2), 2, True, 0]
"""

NO_SETTLED = NO_LOADS + [(1,), (5, 0, 1), (3, 0, 0), (2, 0, 3), (2, 2), (1000,) * 12, (0,) * 11 + (12,)]
NO_AGAIN = NO_SETTLED + [(1, 1, 1), (0, 0, 0), (0, 2, 0), (2, 0, 0), (0, 0), (0,) * 12, (10,) * 12]


def few_settled():
    return [load for corners in (1, 2, 3, 4) for load in settled_loads(corners)]


def burn(load):
    """The tuple of the round in which each corner burns, told by who has burnt."""
    burnt, rounds = {0}, {}
    while True:
        now = [corner for corner in range(1, len(load) + 1) if corner not in burnt
               and load[corner - 1] >= len(set(range(len(load) + 1)) - burnt - {corner})]
        if not now:
            return tuple(rounds.get(corner) for corner in range(1, len(load) + 1))
        burnt.update(now)
        rounds.update({corner: max(rounds.values(), default=0) + 1 for corner in now})


class TestBurning(unittest.TestCase):
    def test_examples(self):
        run_examples(self, EXAMPLES, "rows burning")

    def test_which_loads_come_again(self):
        for load in few_settled():
            self.assertIs(is_same_again(load), comes_again(load), load)
            self.assertIs(is_same_again(load), None not in burn(load), load)
        for load in some_loads():
            self.assertIs(max(load) < len(load) and is_same_again(load), comes_again(load), load)

    def test_rounds(self):
        for load in few_settled():
            self.assertEqual(burn(load), burning_rounds(load))
            self.assertEqual([at for at, number in enumerate(burn(load), 1) if number is None], stuck_corners(load))

    def test_turned(self):
        for load in few_settled():
            self.assertEqual(tuple(len(load) - 1 - grains for grains in load), turned_load(load))

    def test_loads_and_rows(self):
        for corners in (1, 2, 3, 4):
            loads = loads_again(corners)
            rows = [row_of_load(load) for load in loads]
            self.assertEqual(rows_driven(corners), sorted(rows))
            self.assertEqual(loads, [load_of_row(row) for row in rows])
            for load in loads:
                self.assertEqual(turned_load(load), row_of_load(load))
                self.assertEqual(sum(load) - corners * (corners - 1) // 2, load_level(load))
        for row in few_rows():
            self.assertEqual(row, row_of_load(load_of_row(row)))

    def test_made_again(self):
        for load in some_loads():
            left, steps = spill_by_spill(load, max)[0], 0
            while not is_same_again(left):
                left, steps = spill_by_spill([grains + 1 for grains in left], min)[0], steps + 1
            self.assertEqual(left, made_again(load), load)
            self.assertEqual(steps, steps_again(load), load)

    def test_one_corner(self):
        self.assertEqual([True, (1,), (0,), (0,), (0,), 0, [], (0,), 0, (0,), 0],
                         [comes_again((0,)), burning_rounds((0,)), turned_load((0,)), row_of_load((0,)),
                          load_of_row((0,)), load_level((0,)), stuck_corners((0,)), made_again((0,)),
                          steps_again((0,)), made_again((1000,)), steps_again((1000,))])

    def test_twelve_corners(self):
        full, none, stairs = (11,) * 12, (0,) * 12, tuple(range(12))
        self.assertEqual([True, False, True, False],
                         [comes_again(load) for load in (full, none, stairs, (1000,) * 12)])
        self.assertEqual([(1,) * 12, (None,) * 12, tuple(range(12, 0, -1))],
                         [burning_rounds(load) for load in (full, none, stairs)])
        self.assertEqual([none, full, stairs[::-1]], [turned_load(load) for load in (full, none, stairs)])
        self.assertEqual([none, stairs[::-1]], [row_of_load(full), row_of_load(stairs)])
        self.assertEqual([full, stairs[::-1]], [load_of_row(none), load_of_row(stairs)])
        self.assertEqual([66, 0], [load_level(full), load_level(stairs)])
        self.assertEqual([[], list(range(1, 13)), list(range(2, 13))],
                         [stuck_corners(full), stuck_corners(none), stuck_corners((11,) + (0,) * 11)])
        self.assertEqual([full, 11, full, 0, stairs, 0], [made_again(none), steps_again(none), made_again((1000,) * 12),
                                                          steps_again((1000,) * 12), made_again(stairs),
                                                          steps_again(stairs)])

    def test_wrong_arguments(self):
        check_wrong(self, [(function, [(5, 0, 1)], [(InvalidLoad, NO_LOADS)])
                           for function in (comes_again, made_again, steps_again)])
        check_wrong(self, [(function, [(0, 2, 0)], [(InvalidLoad, NO_SETTLED)])
                           for function in (burning_rounds, turned_load, stuck_corners)])
        check_wrong(self, [(function, [(1, 2, 2)], [(InvalidLoad, NO_AGAIN)]) for function in
                           (row_of_load, load_level)])
        check_wrong(self, [(load_of_row, [P], [(InvalidRow, NO_ROWS)])])

    def test_settled_loads_that_do_not_come_again(self):
        for load in few_settled():
            wrong = not is_same_again(load)
            for function in (row_of_load, load_level):
                self.assertEqual(wrong, isinstance(raised(function, [load]), InvalidLoad), load)

    def test_new_lists(self):
        check_new(self, [(stuck_corners, [(0, 2, 0)]), (stuck_corners, [(1, 2, 2)])])
