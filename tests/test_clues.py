"""Tests of parkedrows.clues: [42], [86]."""

import random
import unittest

from parkedrows.clues import are_clues, keeps_clues
from parkedrows.errors import InvalidCars, InvalidClues, InvalidRow
from tests.helper import (HUGE, NO_ERROR, NO_TUPLES, P, U, check_wrong, few_rows, judge, out_of, run_examples,
                          some_clues)
from tests.test_rows import NO_ROWS

EXAMPLES = """
    >>> G, H, A = (("spot", 0, 1, 1),), (("moved", 2, 1, 2),), (("all", 2, 3),)
    >>> [are_clues(3, G + H + A), are_clues(3, (("spot", 0, 2, 1),)), are_clues(3, (("wish", 3, 0, 1),)), are_clues(3, (("wish", 0, 0, 3),)), are_clues(1, (("all", 0, 66),)), are_clues(2, [G[0]])]
    [True, False, False, False, True, False]
    >>> [keeps_clues(P, G), keeps_clues(U, G), keeps_clues(P, H + A), keeps_clues(L, ()), keeps_clues(W, (("wish", 3, 1, 2), ("moved", 3, 2, 3), ("all", 3, 3)))]
    [True, False, True, True, True]
"""

GOOD = ("wish", 0, 0, 2)
# What is no clue of three cars.
NO_SINGLE = [(), ("wish",), ("wish", 0), ("wish", 0, 0), ("wish", 0, 0, 2, 2), ("wish", 3, 0, 1), ("wish", -1, 0, 1),
             ("wish", 0, 0, 3), ("spot", 0, 2, 1), ("moved", 0, -1, 1), ("spot", 0, 3, 3), ("moved", 2, 0, 3),
             ("spot", True, 0, 1), ("wish", False, 0, 1), ("wish", 0, False, 1), ("wish", 0, 0, True), ("all",),
             ("all", 0), ("all", 0, 67), ("all", -1, 3), ("all", 3, 2), ("all", 0, 0, 0), ("all", True, 2),
             ("all", 0, True), ("all", 0, HUGE), ("all", 0, None), ["wish", 0, 0, 2], ["all", 0, 2], ("Wish", 0, 0, 1),
             ("", 0, 0, 1), ("wishes", 0, 0, 1), ("row", 0, 0, 1), (None, 0, 0, 1), (0, 0, 0, 1), ("wish", HUGE, 0, 1),
             ("wish", "0", 0, 1), ("wish", 0, "0", 1), ("wish", 0, 0, (1,)), ("wish", None, 0, 1), ("wish", 0, 0, HUGE),
             (("wish",), 0, 0, 1), (("all",), 0, 1), (["all"], 0, 1), (True, 0, 1), "wish", None, 0,
             ("wish", (0,), 0, 1),
             ("spot", 0, [0], 1), ("spot", 0, 0, [1])]
NO_CLUES = NO_TUPLES + NO_SINGLE[1:] + [(value,) for value in NO_SINGLE] + [(GOOD, value) for value in NO_SINGLE] + [
    [], [GOOD], [list(GOOD)], (GOOD,) * 41, ((GOOD,),), GOOD, (GOOD, [GOOD]), (GOOD,) * 500, (("all", 0, 66),) * 41]


class TestClues(unittest.TestCase):
    def test_examples(self):
        run_examples(self, EXAMPLES, "clues")

    def test_which_are_clues(self):
        for value in NO_CLUES:
            self.assertIs(False, are_clues(3, value), value)
        for cars in range(1, 13):
            for word in ("wish", "spot", "moved"):
                for car, low, high in ((0, 0, 0), (cars - 1, cars - 1, cars - 1), (cars // 2, 0, cars - 1)):
                    self.assertIs(True, are_clues(cars, ((word, car, low, high),)))
                for clue in ((word, cars, 0, 0), (word, 0, 0, cars), (word, 0, cars, cars), (word, 0, 1, 0)):
                    self.assertIs(False, are_clues(cars, (clue,)))
            self.assertEqual([True, True, True, False], [are_clues(cars, value) for value in
                                                         ((), (("all", 66, 66),), (("all", 0, 66),) * 40,
                                                          (("all", 0, 66),) * 41)])

    def test_by_parking(self):
        draw = random.Random(86)
        for row in few_rows():
            for clues in some_clues(draw, len(row), 12):
                self.assertIs(judge(row, clues), keeps_clues(row, clues), (row, clues))

    def test_single_clues(self):
        # The cars of P park in the spots 1, 0 and 2.
        told = {"wish": P, "spot": (1, 0, 2), "moved": (0, 0, 2)}
        for word, numbers in told.items():
            for car in range(3):
                for low in range(3):
                    for high in range(low, 3):
                        self.assertIs(low <= numbers[car] <= high, keeps_clues(P, ((word, car, low, high),)))
        for low in range(67):
            for high in (low, min(low + 1, 66), 66):
                self.assertIs(low <= 2 <= high, keeps_clues(P, (("all", low, high),)))

    def test_twelve_cars(self):
        row = (0,) * 12
        clues = tuple(("moved", car, car, car) for car in range(12)) + (("all", 66, 66),) + (("wish", 11, 0, 0),) * 27
        self.assertEqual([40, True, False, True],
                         [len(clues), keeps_clues(row, clues), keeps_clues(row[:11] + (1,), clues),
                          keeps_clues(row, ())])

    def test_one_car(self):
        clues = (("wish", 0, 0, 0), ("spot", 0, 0, 0), ("moved", 0, 0, 0), ("all", 0, 0))
        self.assertEqual([True, True, True, False],
                         [are_clues(1, clues), keeps_clues((0,), clues), keeps_clues((0,), ()),
                          keeps_clues((0,), clues + (("all", 1, 66),))])

    def test_wrong_arguments(self):
        clues = (InvalidClues, NO_CLUES)
        check_wrong(self, [(are_clues, [3, (GOOD,)], [(InvalidCars, out_of(1, 12)), NO_ERROR]),
                           (keeps_clues, [U, (GOOD,)], [(InvalidRow, NO_ROWS), clues]),
                           (keeps_clues, [(0,), ()], [(InvalidRow, NO_ROWS),
                                                      (InvalidClues, [(GOOD,), (("wish", 1, 0, 0),)])])])
