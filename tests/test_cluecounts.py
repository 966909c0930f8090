"""Tests of parkedrows.cluecounts: [42], [87]."""

import random
import unittest

from parkedrows.cluecounts import (clued_moves, clued_number, clued_rows, clued_with, count_clued, first_clued,
                                   last_clued)
from parkedrows.errors import InvalidCars, InvalidClues, InvalidNumber, InvalidRow
from tests.helper import (HUGE, NO_INTEGERS, U, check_limits, check_new, check_wrong, drive, judge, out_of,
                          rows_driven, run_examples, some_clues)
from tests.test_clues import GOOD, NO_CLUES
from tests.test_rows import NO_ROWS

EXAMPLES = """
    >>> G, H, A = (("spot", 0, 1, 1),), (("moved", 2, 1, 2),), (("all", 2, 3),)
    >>> [[count_clued(3, some) for some in ((), G, H, A, G + A)], clued_moves(3, ()), clued_moves(3, G), clued_moves(1, ()), first_clued(3, G), last_clued(3, G), first_clued(2, (("wish", 0, 1, 1), ("wish", 1, 1, 1)))]
    [[16, 5, 8, 4, 1], (6, 6, 3, 1), (2, 2, 1, 0), (1,), (1, 0, 0), (1, 2, 0), None]
    >>> [clued_with(3, G, 2), clued_number((1, 1, 0), G), clued_number(U, G), clued_rows(3, A), count_clued(9, ()), count_clued(9, (("all", 36, 66),))]
    [(1, 0, 2), 3, None, [(0, 0, 0), (0, 0, 1), (0, 1, 0), (1, 0, 0)], 100000000, 1]
"""

# No row keeps these: the two cars want the last spot, or all of them more than there is.
NEVER = (("wish", 0, 2, 2), ("wish", 1, 2, 2))
FORTY = (("wish", 0, 3, 8), ("spot", 1, 0, 4), ("moved", 2, 1, 3), ("all", 5, 30)) * 10
NO_COUNT = NO_INTEGERS + [-1, -1000, -HUGE]


def moves_of(row):
    """The displacement of a row."""
    return sum(drive(row)) - sum(row)


class TestClueCounts(unittest.TestCase):
    def test_examples(self):
        run_examples(self, EXAMPLES, "cluecounts")

    def check(self, cars, rows, clues):
        kept = [row for row in rows if judge(row, clues)]
        moves = [moves_of(row) for row in kept]
        self.assertEqual(len(kept), count_clued(cars, clues), clues)
        self.assertEqual(tuple(moves.count(more) for more in range(cars * (cars - 1) // 2 + 1)),
                         clued_moves(cars, clues))
        self.assertEqual([kept[0], kept[-1]] if kept else [None, None],
                         [first_clued(cars, clues), last_clued(cars, clues)])
        few = range(0, len(kept), 1 + len(kept) // 30)
        self.assertEqual([kept[at] for at in few], [clued_with(cars, clues, at) for at in few])
        self.assertEqual(list(few), [clued_number(kept[at], clues) for at in few])
        for row in rows[::1 + len(rows) // 20]:
            self.assertEqual(kept.index(row) if row in kept else None, clued_number(row, clues))
        for number in (len(kept), len(kept) + 1, HUGE):
            self.assertRaises(InvalidNumber, clued_with, cars, clues, number)
        return kept

    def test_all_rows_of_few_cars(self):
        draw, empty = random.Random(87), 0
        for cars in (1, 2, 3, 4):
            rows = rows_driven(cars)
            for clues in some_clues(draw, cars, 60):
                kept = self.check(cars, rows, clues)
                self.assertEqual(kept, clued_rows(cars, clues))
                empty += not kept
        self.assertGreater(empty, 10)

    def test_more_cars(self):
        draw = random.Random(88)
        for cars, many in ((5, 20), (6, 6)):
            rows = rows_driven(cars)
            for clues in some_clues(draw, cars, many):
                kept = self.check(cars, rows, clues)
                if cars == 5:
                    self.assertEqual(kept, clued_rows(5, clues))

    def test_nine_cars(self):
        last = tuple(range(8, -1, -1))
        self.assertEqual([10 ** 8, (0,) * 9, last, (0,) * 9, last],
                         [count_clued(9, ()), first_clued(9, ()), last_clued(9, ()), clued_with(9, (), 0),
                          clued_with(9, (), 10 ** 8 - 1)])
        self.assertEqual([0, 10 ** 8 - 1], [clued_number((0,) * 9, ()), clued_number(last, ())])
        moves = clued_moves(9, ())
        self.assertEqual([37, 10 ** 8, 362880, 9, 1], [len(moves), sum(moves), moves[0], moves[-2], moves[-1]])
        self.assertEqual(10 ** 8, sum(count_clued(9, (("spot", 4, spot, spot),)) for spot in range(9)))
        self.assertEqual(10 ** 8, sum(count_clued(9, (("moved", 8, more, more),)) for more in range(9)))

    def test_forty_clues(self):
        self.assertEqual([40, count_clued(9, FORTY[:4])], [len(FORTY), count_clued(9, FORTY)])
        many = count_clued(9, FORTY)
        for number in (0, 1, many // 3, many // 2, many - 1):
            row = clued_with(9, FORTY, number)
            self.assertTrue(judge(row, FORTY))
            self.assertEqual(number, clued_number(row, FORTY))
        self.assertEqual([clued_with(9, FORTY, 0), clued_with(9, FORTY, many - 1)],
                         [first_clued(9, FORTY), last_clued(9, FORTY)])
        kept = clued_moves(9, FORTY)
        self.assertEqual([many, 0, 0, 37], [sum(kept), sum(kept[:5]), sum(kept[31:]), len(kept)])

    def test_no_row(self):
        for cars in (3, 4, 5):
            never = (("wish", 0, cars - 1, cars - 1), ("wish", 1, cars - 1, cars - 1))
            self.assertEqual([0, None, None, [], None],
                             [count_clued(cars, never), first_clued(cars, never), last_clued(cars, never),
                              clued_rows(cars, never), clued_number((0,) * cars, never)])
            self.assertEqual((0,) * (cars * (cars - 1) // 2 + 1), clued_moves(cars, never))
            self.assertRaises(InvalidNumber, clued_with, cars, never, 0)
        self.assertEqual([0, (0, 0)], [count_clued(2, (("all", 2, 66),)), clued_moves(2, (("all", 2, 66),))])

    def test_one_car(self):
        clues = (("spot", 0, 0, 0), ("all", 0, 0))
        self.assertEqual([1, (1,), (0,), (0,), (0,), 0, [(0,)]],
                         [count_clued(1, clues), clued_moves(1, clues), first_clued(1, clues), last_clued(1, clues),
                          clued_with(1, clues, 0), clued_number((0,), clues), clued_rows(1, clues)])

    def test_limits(self):
        functions = (count_clued, clued_moves, first_clued, last_clued)
        check_limits(self, [(function, [9, FORTY], [10, ()], 9) for function in functions] +
                     [(function, [9, ()], [12, NEVER], 9) for function in functions] +
                     [(clued_with, [9, (), 0], [10, (), HUGE], 9), (clued_with, [9, (), 1], [12, NEVER, 0], 9),
                      (clued_number, [(0,) * 9, NEVER], [(0,) * 10, NEVER], 9),
                      (clued_number, [(0,) * 9, ()], [(0,) * 12, ()], 9),
                      (clued_rows, [5, ()], [6, NEVER], 5), (clued_rows, [5, ()], [12, ()], 5)])

    def test_wrong_arguments(self):
        cars, clues = (InvalidCars, out_of(1, 12)), (InvalidClues, NO_CLUES)
        functions = (count_clued, clued_moves, first_clued, last_clued, clued_rows)
        check_wrong(self, [(function, [3, (GOOD,)], [cars, clues]) for function in functions])
        check_wrong(self, [(clued_with, [3, (GOOD,), 15], [cars, clues, (InvalidNumber, NO_COUNT + [16, HUGE])]),
                           (clued_number, [U, (GOOD,)], [(InvalidRow, NO_ROWS), clues])])
        # Clues of other numbers of cars, and errors ahead of the limit.
        for function in functions[:4]:
            check_wrong(self, [(function, [2, ()], [cars, (InvalidClues, [(GOOD,), (("spot", 2, 0, 0),)])])])
            self.assertRaises(InvalidClues, function, 12, (("wish", 12, 0, 0),))
        self.assertRaises(InvalidNumber, clued_with, 12, (), -1)
        self.assertRaises(InvalidClues, clued_number, (0,) * 12, (("wish", 12, 0, 0),))
        self.assertRaises(InvalidClues, clued_with, 12, [], -1)

    def test_new_lists(self):
        check_new(self, [(clued_rows, [3, ()])])
