"""Tests of parkedrows.rowpapers: [44], [90]."""

import functools
import random
import unittest

from parkedrows.cluecounts import count_clued
from parkedrows.errors import InvalidCars, InvalidClues
from parkedrows.rowpapers import is_row_paper, next_question, row_paper, row_questions
from tests.helper import (HUGE, NO_ERROR, NO_TUPLES, P, U, check_limits, check_wrong, drawn_clue, drive, judge, nested,
                          out_of, rows_driven, run_examples)
from tests.test_clues import GOOD, NO_CLUES

EXAMPLES = """
    >>> G, H, A = (("spot", 0, 1, 1),), (("moved", 2, 1, 2),), (("all", 2, 3),)
    >>> [row_questions(3, ()), row_questions(3, G), row_questions(3, G + A), row_questions(2, ()), next_question(3, G + A), row_paper(3, G + A), row_paper(2, A)]
    [3, 2, 0, 2, None, ('row', (1, 0, 0)), ('none',)]
    >>> [is_row_paper(2, (), ("wish", 0, ((0, ("wish", 1, ((0, ("row", (0, 0))), (1, ("row", (0, 1)))))), (1, ("row", (1, 0)))))), is_row_paper(3, G + A, ("row", P)), is_row_paper(3, G, ("row", P)), is_row_paper(3, H, row_paper(3, H))]
    [True, True, False, True]
"""

TWO = (("all", 1, 1),)  # of two cars just one row keeps it
NONE = ("none",)
ZERO, ONE, OTHER = ("row", (0, 0)), ("row", (0, 1)), ("row", (1, 0))
INNER = ("wish", 1, ((0, ZERO), (1, ONE)))
PAPER = ("wish", 0, ((0, INNER), (1, OTHER)))
# What is no row paper for all rows of two cars.
NO_PAPERS = NO_TUPLES + [
    (), NONE, ZERO, OTHER, INNER, ["wish", 0, ((0, INNER), (1, OTHER))], ("wish", 0, [(0, INNER), (1, OTHER)]),
    ("wish", 0, ([0, INNER], (1, OTHER))), ("wish", 0, ((0, INNER),)), ("wish", 0, ((1, OTHER),)), ("wish", 0, ()),
    ("wish", 0, ((0, INNER), (1, OTHER), (1, OTHER))), ("wish", 0, ((1, OTHER), (0, INNER))),
    ("wish", 0, ((0, INNER), (2, OTHER))), ("wish", 2, ((0, INNER), (1, OTHER))), ("wish", -1, PAPER[2]),
    ("wish", True, ((0, ("wish", 0, ((0, ZERO), (1, OTHER)))), (1, ONE))), ("wish", False, PAPER[2]),
    ("Wish", 0, PAPER[2]), ("moved", 0, PAPER[2]), ("all", 0, PAPER[2]), (None, 0, PAPER[2]), ("wish", 0),
    ("wish", 0, PAPER[2], 0), ("wish", "0", PAPER[2]), ("wish", HUGE, PAPER[2]), ("wish", 0, None),
    ("wish", 0, ((0, ("wish", 1, ((0, ZERO), (1, ONE), (1, ONE)))), (1, OTHER))),
    ("wish", 0, ((0, INNER), (True, OTHER))),
    ("wish", 0, ((False, INNER), (1, OTHER))), ("wish", 0, ((0, INNER), (1, ("row", (True, 0))))),
    ("wish", 0, ((0, INNER), (1, ("row", [1, 0])))), ("wish", 0, ((0, INNER), (1, ["row", (1, 0)]))),
    ("wish", 0, ((0, INNER), (1, ("row", (0, 1))))), ("wish", 0, ((0, INNER), (1, ("row", (1, 0), 0)))),
    ("wish", 0, ((0, INNER), (1, ("row",)))), ("wish", 0, ((0, INNER), (1, NONE))),
    ("wish", 0, ((0, INNER), (1, None))),
    ("wish", 0, ((0, INNER), (1, ("wish", 1, ((0, OTHER),))))), ("wish", 0, ((0, INNER), (1, OTHER), (2, NONE))),
    ("wish", 0, ((0, INNER, 0), (1, OTHER))), ("wish", 0, ((0,), (1, OTHER))), ("wish", 0, (0, 1)), ("wish",) * 3,
    ("wish", 0, nested(tuple, 0)), nested(tuple, PAPER), (PAPER,), ("wish", (0,), PAPER[2]), ("spot", 0, PAPER[2][:1]),
    ("wish", -1, ((0, OTHER), (1, INNER))), ("spot", 2, PAPER[2]), ("spot", -1, ((0, OTHER), (1, INNER))),
    ("wish", 0, ((0, INNER), (HUGE, OTHER))), ("wish", 0, ((0, INNER), (1, OTHER)) * 250), ("wish", 0, "01")]


def told_by(row, word, car):
    """What a car's wish, or its spot, is."""
    return row[car] if word == "wish" else drive(row)[car]


@functools.lru_cache(maxsize=None)
def least_tried(rows):
    """The least length of a paper for rows, by a search through all questions."""
    if len(rows) < 2:
        return 0
    lengths = []
    for word in ("wish", "spot"):
        for car in range(len(rows[0])):
            answers = {told_by(row, word, car) for row in rows}
            if len(answers) > 1:
                lengths.append(1 + max(least_tried(tuple(row for row in rows if told_by(row, word, car) == answer))
                                       for answer in answers))
    return min(lengths)


def length_of(rows, paper):
    """The length of a row paper for rows, or None if a value is none."""
    if len(rows) < 2:
        return 0 if paper == (("row", rows[0]) if rows else ("none",)) else None
    word, car, parts = paper
    if [answer for answer, _ in parts] != sorted({told_by(row, word, car) for row in rows}):
        return None
    lengths = [length_of([row for row in rows if told_by(row, word, car) == answer], part) for answer, part in parts]
    return None if None in lengths else 1 + max(lengths)


def clues_for_few(draw, cars, many):
    """A list of so many pairs of drawn clues that at most 16 rows keep, and of these."""
    rows, found = rows_driven(cars), []
    while len(found) < many:
        clues = tuple(drawn_clue(draw, cars) for _ in range(draw.randint(1, 3 * cars)))
        kept = [row for row in rows if judge(row, clues)]
        if len(kept) <= 16 and (len(kept) > 1 or draw.randrange(4) == 0):
            found.append((clues, kept))
    return found


# The displacements 14 and 15 of six cars: one of six wishes is 1, or none is.
SEVEN = (("all", 14, 15),)
# What 16 and 17 rows keep, of four cars and of six.
SIXTEEN, SEVENTEEN = (("wish", 0, 3, 3),), (("wish", 2, 1, 1), ("moved", 2, 1, 2))
SIX = (("spot", 4, 5, 5), ("moved", 4, 3, 4), ("wish", 2, 2, 5), ("moved", 3, 3, 5))
SEVEN_AND_TEN = (("moved", 3, 0, 3), ("moved", 2, 1, 2), ("all", 13, 14), ("moved", 2, 2, 3))


class TestRowPapers(unittest.TestCase):
    def test_examples(self):
        run_examples(self, EXAMPLES, "rowpapers")

    def check(self, cars, clues, kept):
        length = least_tried(tuple(kept))
        self.assertEqual(length, row_questions(cars, clues), clues)
        paper = row_paper(cars, clues)
        self.assertEqual(length, length_of(kept, paper), clues)
        self.assertIs(True, is_row_paper(cars, clues, paper))
        question = next_question(cars, clues)
        if len(kept) < 2:
            self.assertIsNone(question)
            return
        word, car = question
        answers = {told_by(row, word, car) for row in kept}
        self.assertEqual(length, 1 + max(least_tried(tuple(row for row in kept if told_by(row, word, car) == answer))
                                         for answer in answers))

    def test_least_lengths(self):
        draw = random.Random(90)
        for cars, many in ((1, 5), (2, 20), (3, 40), (4, 40), (5, 12)):
            for clues, kept in clues_for_few(draw, cars, many):
                self.check(cars, clues, kept)

    def test_few_rows(self):
        for cars in (1, 2, 3):
            self.check(cars, (), rows_driven(cars))
        never = (("wish", 0, 1, 1), ("wish", 1, 1, 1))
        self.assertEqual([0, None, NONE, True, False],
                         [row_questions(2, never), next_question(2, never), row_paper(2, never),
                          is_row_paper(2, never, NONE), is_row_paper(2, never, ZERO)])
        self.assertEqual([0, None, ZERO, True, False, False],
                         [row_questions(2, TWO), next_question(2, TWO), row_paper(2, TWO),
                          is_row_paper(2, TWO, ZERO), is_row_paper(2, TWO, NONE), is_row_paper(2, TWO, OTHER)])
        for value in NO_PAPERS + [PAPER]:
            self.assertIs(value == NONE, is_row_paper(2, never, value), value)
            self.assertIs(value == ZERO, is_row_paper(2, TWO, value), value)
        for value in ((), ("none", 0), ["none"], ("None",), (None,), ("none", "none"), ("row",), "none", (("none",),)):
            self.assertIs(False, is_row_paper(2, never, value), value)
        for value in (("raw", (0, 0)), ("none", (0, 0)), ("wish", (0, 0)), ["row", (0, 0)], ("row", [0, 0]),
                      ("row", (0, False)),
                      ("row", (0, 0), ()), ("row", (0,)), ("row", (0, 0, 0)), ("row", None), (None, (0, 0)),
                      ("row", ZERO)):
            self.assertIs(False, is_row_paper(2, TWO, value), value)
        self.assertEqual([("row", (0,)), 0, True], [row_paper(1, ()), row_questions(1, ()),
                                                    is_row_paper(1, (), ("row", (0,)))])

    def test_six_cars(self):
        rows = rows_driven(6)
        for clues in (SIX, SEVEN, SEVEN + (("wish", 5, 0, 0),), (("all", 13, 13), ("wish", 0, 0, 0)),
                      (("all", 11, 16), ("spot", 2, 3, 4), ("all", 11, 13))):
            kept = [row for row in rows if judge(row, clues)]
            self.assertLessEqual(len(kept), 16)
            self.check(6, clues, kept)
        self.assertEqual(5, row_questions(6, SEVEN[:1] + (("wish", 0, 0, 0),)))

    def test_papers_of_any_length(self):
        spot = ("spot", 0, ((0, INNER), (1, OTHER)))
        useless = ("spot", 1, ((0, OTHER), (1, ("spot", 0, ((0, INNER),)))))
        deep = PAPER
        for _ in range(7):
            deep = ("wish", 0, ((0, ("spot", 0, ((0, deep[2][0][1]),))), (1, OTHER)))
        for paper in (PAPER, spot, useless, deep, ("wish", 1, ((0, ("wish", 0, ((0, ZERO), (1, OTHER)))), (1, ONE)))):
            self.assertIs(True, is_row_paper(2, (), paper), paper)
        for paper in NO_PAPERS:
            self.assertIs(False, is_row_paper(2, (), paper), paper)

    def test_bent_papers(self):
        draw = random.Random(91)
        for clues, kept in clues_for_few(draw, 3, 12):
            paper = row_paper(3, clues)
            for other, rows in clues_for_few(draw, 3, 6):
                self.assertIs(kept == rows or length_of_or_none(rows, paper), is_row_paper(3, other, paper))

    def test_one_row_is_not_asked_for(self):
        rows = (("all", 3, 3), ("wish", 0, 0, 0), ("wish", 1, 0, 0))
        self.assertEqual([True, False], [is_row_paper(3, rows, ("row", (0, 0, 0))),
                                         is_row_paper(3, rows, ("wish", 0, ((0, ("row", (0, 0, 0))),)))])

    def test_limits(self):
        functions = (row_questions, next_question, row_paper)
        self.assertEqual([16, 17, 16, 17], [count_clued(4, SIXTEEN), count_clued(4, SEVENTEEN), count_clued(6, SIX),
                                            count_clued(6, SEVEN_AND_TEN)])
        for inside, beyond, limit in (([6, SEVEN], [7, SEVEN], 6), ([6, SEVEN], [12, ()], 6), ([3, ()], [4, ()], 16),
                                      ([4, SIXTEEN], [4, SEVENTEEN], 16), ([6, SIX], [6, SEVEN_AND_TEN], 16),
                                      ([6, SEVEN], [6, ()], 16)):
            check_limits(self, [(function, inside, beyond, limit) for function in functions] +
                         [(is_row_paper, inside + [None], beyond + [NONE], limit)])

    def test_wrong_arguments(self):
        cars, clues = (InvalidCars, out_of(1, 12)), (InvalidClues, NO_CLUES)
        for function in (row_questions, next_question, row_paper):
            check_wrong(self, [(function, [3, (GOOD,)], [cars, clues])])
        check_wrong(self, [(is_row_paper, [3, (GOOD,), ("row", U)], [cars, clues, NO_ERROR]),
                           (is_row_paper, [3, (GOOD,), ("row", P)], [cars, clues, (None, NO_PAPERS)])])


def length_of_or_none(rows, paper):
    """Whether a paper is one for rows, as the shape of it lets the test follow it."""
    try:
        return length_of(rows, paper) is not None
    except ValueError:
        return False
