"""Tests of parkedrows.clueleft: [42], [88]."""

import itertools
import random
import unittest

from parkedrows.clueleft import clue_clash, moves_left, spots_left, wishes_left
from parkedrows.errors import InvalidCars, InvalidClues
from tests.helper import (check_limits, check_wrong, drawn_clue, drive, judge, out_of, rows_driven, run_examples,
                          some_clues)
from tests.test_cluecounts import FORTY, moves_of
from tests.test_clues import GOOD, NO_CLUES

EXAMPLES = """
    >>> G, H, A = (("spot", 0, 1, 1),), (("moved", 2, 1, 2),), (("all", 2, 3),)
    >>> [wishes_left(3, G), spots_left(3, G), moves_left(3, G), wishes_left(3, G + A), spots_left(2, (("all", 1, 1),)), wishes_left(2, (("wish", 0, 1, 1), ("wish", 1, 1, 1)))]
    [((1,), (0, 1, 2), (0, 1, 2)), ((1,), (0, 2), (0, 2)), (0, 2), ((1,), (0,), (0,)), ((0,), (1,)), None]
    >>> [clue_clash(3, G + (("wish", 0, 0, 0),)), clue_clash(3, G), clue_clash(2, A), clue_clash(3, (("spot", 1, 0, 1), ("spot", 2, 0, 0), ("spot", 0, 0, 0))), clue_clash(3, ())]
    [(0, 1), None, (0,), (1, 2), None]
"""

# Just together these eight clash: seven cars may drive one less than they must.
EIGHT = tuple(("moved", car, 0, car - 1) for car in range(2, 9)) + (("all", 30, 66),)


def has(rows, index):
    """The tuple, for each car, of the ascending tuple of what it has in some of the rows; None for no rows."""
    told = [index(row) for row in rows]
    return tuple(tuple(sorted(set(numbers))) for numbers in zip(*told)) if rows else None


def clash_tried(rows, clues):
    """The first of the least lots of clues that none of the rows keeps."""
    for many in range(1, len(clues) + 1):
        for lot in itertools.combinations(range(len(clues)), many):
            if not any(judge(row, [clues[index] for index in lot]) for row in rows):
                return lot
    return None


class TestClueLeft(unittest.TestCase):
    def test_examples(self):
        run_examples(self, EXAMPLES, "clueleft")

    def check(self, cars, rows, clues):
        kept = [row for row in rows if judge(row, clues)]
        moves = [moves_of(row) for row in kept]
        self.assertEqual(has(kept, lambda row: row), wishes_left(cars, clues), clues)
        self.assertEqual(has(kept, drive), spots_left(cars, clues), clues)
        self.assertEqual((min(moves), max(moves)) if kept else None, moves_left(cars, clues), clues)

    def test_all_rows_of_few_cars(self):
        draw = random.Random(88)
        for cars in (1, 2, 3, 4):
            rows = rows_driven(cars)
            for clues in some_clues(draw, cars, 60):
                self.check(cars, rows, clues)

    def test_more_cars(self):
        draw = random.Random(89)
        for cars, many in ((5, 12), (6, 5)):
            rows = rows_driven(cars)
            for clues in some_clues(draw, cars, many):
                self.check(cars, rows, clues)

    def test_clashes(self):
        draw, sizes = random.Random(90), set()
        for cars in (1, 2, 3, 4):
            rows = rows_driven(cars)
            for _ in range(60):
                clues = tuple(drawn_clue(draw, cars) for _ in range(draw.randint(0, 8)))
                clash = clash_tried(rows, clues)
                self.assertEqual(clash, clue_clash(cars, clues), clues)
                sizes.add(len(clash or ()))
        self.assertTrue({0, 1, 2, 3} <= sizes, sizes)

    def test_the_same_clue_again(self):
        clue, other = ("wish", 0, 0, 0), ("wish", 0, 1, 2)
        self.assertEqual([None, (0, 3), (0, 1), (1,)],
                         [clue_clash(3, (clue,) * 8), clue_clash(3, (clue,) * 3 + (other,) * 5),
                          clue_clash(3, (clue, other, clue, other)),
                          clue_clash(2, (clue, ("all", 2, 3), ("all", 5, 5)))])

    def test_nine_cars(self):
        every = (tuple(range(9)),) * 9
        self.assertEqual([every, every, (0, 36)], [wishes_left(9, ()), spots_left(9, ()), moves_left(9, ())])
        last = (("all", 36, 36),)
        self.assertEqual([((0,),) * 9, tuple((car,) for car in range(9)), (36, 36)],
                         [wishes_left(9, last), spots_left(9, last), moves_left(9, last)])
        self.assertEqual([(0, 1, 2, 3, 4), (5, 30)], [spots_left(9, FORTY)[1], moves_left(9, FORTY)])
        self.assertEqual(wishes_left(9, FORTY[:4]), wishes_left(9, FORTY))

    def test_clashes_of_nine_cars(self):
        self.assertEqual([(0, 1, 2, 3, 4, 5, 6, 7), None, None],
                         [clue_clash(9, EIGHT), clue_clash(9, EIGHT[:7]), clue_clash(9, EIGHT[1:])])
        spots = tuple(("spot", car, 0, 6) for car in range(8))
        self.assertEqual([tuple(range(8)), None], [clue_clash(9, spots), clue_clash(9, spots[:7])])

    def test_no_row(self):
        never = (("wish", 0, 8, 8), ("wish", 1, 8, 8))
        self.assertEqual([None, None, None, (0, 1)],
                         [wishes_left(9, never), spots_left(9, never), moves_left(9, never), clue_clash(9, never)])

    def test_one_car(self):
        self.assertEqual([((0,),), ((0,),), (0, 0), None, None, (0,)],
                         [wishes_left(1, ()), spots_left(1, ()), moves_left(1, ()), clue_clash(1, ()),
                          moves_left(1, (("all", 1, 2),)), clue_clash(1, (("all", 1, 2),))])

    def test_limits(self):
        functions = (wishes_left, spots_left, moves_left)
        check_limits(self, [(function, [9, FORTY], [10, FORTY], 9) for function in functions] +
                     [(function, [9, ()], [12, ()], 9) for function in functions] +
                     [(clue_clash, [9, EIGHT], [10, EIGHT + EIGHT], 9), (clue_clash, [9, EIGHT], [12, ()], 9),
                      (clue_clash, [9, EIGHT], [9, EIGHT + EIGHT[:1]], 8),
                      (clue_clash, [3, (GOOD,) * 8], [3, (GOOD,) * 9], 8),
                      (clue_clash, [1, ()], [1, (("all", 0, 0),) * 40], 8)])

    def test_wrong_arguments(self):
        cars, clues = (InvalidCars, out_of(1, 12)), (InvalidClues, NO_CLUES)
        functions = (wishes_left, spots_left, moves_left, clue_clash)
        check_wrong(self, [(function, [3, (GOOD,)], [cars, clues]) for function in functions])
        for function in functions:
            check_wrong(self, [(function, [2, ()], [cars, (InvalidClues, [(GOOD,), (("spot", 2, 0, 0),)])])])
            self.assertRaises(InvalidClues, function, 12, (("wish", 12, 0, 0),))
