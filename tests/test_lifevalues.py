"""Tests of parkedrows.lifevalues: [94]."""

import itertools
import random
import unittest

from parkedrows.errors import (InvalidCar, InvalidCorner, InvalidMarks, InvalidNumber, InvalidRow, InvalidText, Stuck,
                               TooMany, Unlike)
from parkedrows.lifebenches import Bench
from parkedrows.lifevalues import Marked
from tests.helper import (HUGE, NO_INTEGERS, NO_TUPLES, P, cut, drawn_row, drive, grained, out_of, put, raised,
                          rows_added, rows_driven, run_examples)
from tests.test_lifetexts import NO_TEXTS, bent
from tests.test_rows import NO_ROWS

EXAMPLES = """
    >>> a, b = Marked((1, 0, 0), (5, 7, 9)), Marked((0, 0, 0), (1, 1, 1))
    >>> [(a + b).row, (a + a).row, (a * 3).row, (~a).row, (a ^ (0, 2)).row, (a - 0).row, (a << 3).row, a(2).row, a[2], 7 in a, len(a), bool(a), bool(a << 3), b <= a, a <= b, a.spots, a.load, Marked.read(str(a)) == a]
    [(1, 0, 0), (2, 0, 0), (0, 1, 1), (0, 1, 1), (0, 0, 1), (0, 0), (1, 0, 0, 3), (2, 0, 1), (2, 9), True, 3, True, True, True, False, (1, 0, 2), (1, 2, 2), True]
"""

FAR = 10 ** 30
NO_MARKS = NO_TUPLES + [(), (5, 7), (5, 7, 9, 1), (5, 7, 100), (5, -1, 9), (5, 7, True), (5, None, 9), (5, 7, "9"),
                        [5, 7, 9], (5, 7, (9,)), (5, HUGE, 9)]
NO_PAIRS = NO_TUPLES + [(), (0,), (0, 0), (2, 2), (0, 3), (3, 0), (-1, 0), (0, -1), (0, True), (True, 0), [0, 2],
                        (0, 1, 2), (0, None), ("0", 1), ((0,), 1), (0, HUGE), (0, (1,))]
NO_VALUE_TEXTS = NO_TEXTS + [
    "", "\n", "0", "0\n", "\n0", "0\n0\n", "0\n0\n0", "1 0 0\n5 7", "1 0 0\n5 7 9 1", "1 0 0\r\n5 7 9",
    "1 0 0\n5 7 100",
    "1 1 1\n5 7 9", "1 0 0\n5 7 -9", "1 0 0\n05 7 9", "+1 0 0\n5 7 9", "1  0 0\n5 7 9", "1 0 0 \n5 7 9",
    "1 0 0\n5 7 9 ",
    "1 0 0 5 7 9", "1 0 0\n5 7 a", "(1, 0, 0)\n(5, 7, 9)", "1 0 0\n2\n5 7 9", "0 " * 400, "0\n" + "9" * 900]


def some_values():
    """Marked rows of one to three cars, and some drawn ones."""
    draw = random.Random(94)
    found = [Marked(row, tuple(range(8, 8 + cars))) for cars in (1, 2, 3) for row in rows_driven(cars)]
    return found + [Marked(drawn_row(draw, cars), tuple(draw.randint(0, 99) for _ in range(cars)))
                    for cars in (4, 5, 6, 11, 12) for _ in range(4)]


def both(value):
    """The row and the marks."""
    return value.row, value.marks


class TestMarked(unittest.TestCase):
    def check_wrong(self, call, error, values, most=12):
        for value in values:
            for marked in [marked for marked in some_values()[-1:] + [Marked(P, (5, 7, 9))] if len(marked) <= most]:
                before = both(marked)
                found = raised(call, (marked, value))
                self.assertIs(error, type(found), value)
                self.assertEqual(before, both(marked))

    def test_examples(self):
        run_examples(self, EXAMPLES, "lifevalues")

    def test_properties(self):
        for marked in some_values():
            row, marks = both(marked)
            self.assertEqual([drive(row), tuple(len(row) - 1 - wish for wish in row)], [marked.spots, marked.load])
            self.assertEqual((row, marks), both(Marked(row, marks)))
            for name in ("row", "marks", "spots", "load"):
                self.assertIsInstance(getattr(marked, name), tuple)
                self.assertRaises(AttributeError, setattr, marked, name, ())
        self.assertEqual([12, 12], [Marked.MOST, some_values()[0].MOST])

    def test_sums(self):
        for one, other in itertools.product(some_values(), repeat=2):
            before = both(one), both(other)
            if len(one) == len(other):
                total = one + other
                self.assertEqual((rows_added(one.row, other.row), one.marks), both(total))
                same = value = Marked(one.row, one.marks)
                value += other
                self.assertIs(same, value)
                self.assertEqual(total, value)
            else:
                self.assertRaises(Unlike, lambda: one + other)
                self.assertIs(Unlike, type(raised(Marked.__iadd__, (one, other))))
            self.assertEqual(before, (both(one), both(other)))

    def test_sums_change_the_object_itself_or_not(self):
        value = kept = Marked(P, (5, 7, 9))
        value = value + kept
        self.assertIsNot(value, kept)
        self.assertEqual([(2, 0, 0), P], [value.row, kept.row])
        kept += kept
        self.assertEqual([(2, 0, 0), (5, 7, 9)], list(both(kept)))
        shelf = [kept]
        shelf[0] += Marked(P, (0, 0, 0))
        self.assertIs(kept, shelf[0])
        with self.assertRaises(Unlike):
            kept += P
        self.assertEqual(rows_added((2, 0, 0), P), kept.row)

    def test_times_and_opposites(self):
        for marked in some_values()[::2]:
            row, cars = marked.row, len(marked)
            neutral = rows_added(row, (~marked).row)
            self.assertEqual(row, rows_added(row, neutral))
            self.assertEqual([neutral, marked.marks, marked.marks],
                             [(marked * 0).row, (~marked).marks, (marked * 7).marks])
            total = neutral
            for times in range(1, cars + 3):
                total = rows_added(total, row)
                self.assertEqual(total, (marked * times).row)
                self.assertEqual((~Marked(total, marked.marks)).row, (marked * -times).row)
            for times in (FAR, FAR - 1, -FAR, 1000, -999):
                self.assertEqual((marked * (times % (cars + 1))).row, (marked * times).row)

    def test_exchanged(self):
        for marked in some_values():
            for one, other in itertools.permutations(range(len(marked)), 2):
                row = put(put(marked.row, one, marked.row[other]), other, marked.row[one])
                self.assertEqual((row, marked.marks), both(marked ^ (one, other)))

    def test_without_and_with_a_car(self):
        for marked in some_values():
            for car in range(len(marked)):
                rest = cut(marked.row, car)
                if rest and max(rest) < len(rest) and drive(rest) is not None:
                    self.assertEqual((rest, cut(marked.marks, car)), both(marked - car))
                else:
                    self.assertRaises(Stuck, lambda: marked - car)
            for wish in range(len(marked) + 1):
                if len(marked) < 12:
                    self.assertEqual((marked.row + (wish,), marked.marks + (0,)), both(marked << wish))
                else:
                    self.assertEqual(12, raised(Marked.__lshift__, (marked, wish)).limit)

    def test_grains(self):
        for marked in some_values():
            for corner in range(1, len(marked) + 1):
                self.assertEqual((grained(marked.row, corner, 1), marked.marks), both(marked(corner)))

    def test_lesser_ones(self):
        for one, other in itertools.product(some_values(), repeat=2):
            if len(one) == len(other):
                self.assertIs(all(wish <= more for wish, more in zip(one.row, other.row)), one <= other)
            else:
                self.assertRaises(Unlike, lambda: one <= other)

    def test_what_there_is(self):
        for marked in some_values():
            row, marks = both(marked)
            cars = [drive(row).index(spot) for spot in range(len(row))]
            self.assertEqual([(car, marks[car]) for car in cars], [marked[spot] for spot in range(len(row))])
            self.assertEqual(list(map(marks.count, range(101))), [marks.count(mark) if mark in marked else 0
                                                                  for mark in range(101)])
            self.assertEqual([len(row), drive(row) != row], [len(marked), bool(marked)])
            self.assertIs(drive(row) != row, bool(marked))
        one = Marked((0, 1), (0, 1))
        for value in NO_INTEGERS + NO_TUPLES + [2, -1, HUGE, one, int]:
            self.assertIs(value in (0, 1) and type(value) is int, value in one, value)

    def test_texts(self):
        for marked in some_values():
            text = " ".join(map(str, marked.row)) + "\n" + " ".join(map(str, marked.marks))
            self.assertEqual(text, str(marked))
            self.assertEqual(marked, Marked.read(text))
        for text in ("1 0 0\n5 7 9", "0\n99"):
            known = {"\n".join(" ".join(map(str, items)) for items in (row, marks)): (row, marks)
                     for cars in (1, 2, 3) for row in rows_driven(cars)
                     for marks in itertools.product([0, 1, 2, 3, 4, 5, 7, 9], repeat=cars)}
            for value in bent(text):
                found = raised(Marked.read, (value,))
                if found is not None:
                    self.assertIs(InvalidText, type(found))
                    self.assertNotIn(value, known)
                else:
                    self.assertEqual(value, str(Marked.read(value)))
        for value in NO_VALUE_TEXTS:
            self.assertRaises(InvalidText, Marked.read, value)

    def test_equality(self):
        values = some_values()
        for one, other in itertools.product(values, repeat=2):
            self.assertIs(both(one) == both(other), one == other)
            self.assertIs(both(one) != both(other), one != other)
        one = Marked(P, (5, 7, 9))
        self.assertTrue(one == Marked(P, (5, 7, 9)))
        for value in NO_TUPLES + [P, (P, (5, 7, 9)), str(one), Marked(P, (5, 7, 8)), Bench((P, 0, (5, 7, 9))), int]:
            self.assertIs(False, one == value, value)
            self.assertIs(True, one != value, value)

    def test_no_iteration(self):
        for marked in some_values()[::5]:
            for call in (iter, list, tuple, sorted, lambda value: [item for item in value], lambda value: (*value,)):
                self.assertRaises(TypeError, call, marked)

    def test_one_car_and_twelve(self):
        one = Marked((0,), (99,))
        self.assertEqual([(0,), (0,), (0,), (0,), (0, 99), False, "0\n99", True],
                         [(one + one).row, (one * FAR).row, (~one).row, one(1).row, one[0], bool(one), str(one),
                          one <= one])
        self.assertRaises(Stuck, lambda: one - 0)
        many = Marked((0,) * 11, (0,) * 11) << 11
        self.assertEqual((0,) * 11 + (11,), many.row)
        self.assertIs(TooMany, type(raised(Marked.__lshift__, (many, 12))))
        self.assertIs(InvalidNumber, type(raised(Marked.__lshift__, (many, 13))))

    def test_wrong_arguments(self):
        for value in NO_ROWS:
            self.assertRaises(InvalidRow, Marked, value, (5, 7, 9))
            self.assertRaises(InvalidRow, Marked, value, None)
        for value in NO_MARKS:
            self.assertRaises(InvalidMarks, Marked, P, value)
        no_marked = NO_TUPLES + [P, 0, Marked((0,), (0,)), Bench((P, 0, (5, 7, 9))), "1 0 0\n5 7 9", None]
        for call in (Marked.__add__, Marked.__iadd__, Marked.__le__):
            self.check_wrong(call, Unlike, no_marked)
        self.check_wrong(Marked.__mul__, InvalidNumber, out_of(-FAR, FAR) + [Marked(P, (5, 7, 9))])
        self.check_wrong(Marked.__xor__, InvalidCar, NO_PAIRS, 3)
        self.check_wrong(Marked.__xor__, InvalidCar, [(0, 12), (12, 0), (-1, 1), (5, 5), [0, 1], (0, True), None])
        self.check_wrong(Marked.__sub__, InvalidCar, NO_INTEGERS + [-1, 12, HUGE, -HUGE])
        self.check_wrong(Marked.__lshift__, InvalidNumber, NO_INTEGERS + [-1, 13, HUGE, -HUGE])
        self.check_wrong(Marked.__call__, InvalidCorner, NO_INTEGERS + [0, -1, 13, HUGE, -HUGE])
        self.check_wrong(Marked.__getitem__, InvalidNumber, NO_INTEGERS + [-1, 12, HUGE, -HUGE, slice(0, 1)])
