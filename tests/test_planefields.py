"""Tests of parkedrows.planefields: [23] to [26], [65]."""

import fractions
import itertools
import math
import unittest

from parkedrows.errors import InvalidCars, InvalidField, InvalidNumber, InvalidPoint
from parkedrows.planefields import (all_fields, count_closed_fields, count_fields, count_off_planes, far_things,
                                    field_of, is_closed_field, is_field, middle_field, near_things, point_in)
from tests.helper import (HUGE, NO_ERROR, NO_TUPLES, check_limits, check_new, check_wrong, few_fields, fields_tried,
                          is_far, nested, out_of, planes_above, run_examples)

EXAMPLES = """
    >>> A, B, D = ((0, 1, 2), ()), ((2, 1, 0), ()), ((1, 0, 2), ((0, 2),))
    >>> [is_field(A), is_field(((0, 1), ((1, 0),))), is_field(((0, 1, 2), ((0, 2), (1, 2)))), is_field(((1, 0), ((0, 1),))), middle_field(3), middle_field(1), field_of(((3, 2), (0, 1), (1, 4))), field_of(point_in(D)) == D]
    [True, False, False, False, ((0, 1, 2), ((0, 2),)), ((0,), ()), ((0, 2, 1), ()), True]
    >>> [near_things(D), far_things(A), is_closed_field(D), is_closed_field(A), all_fields(2), len(all_fields(4)), [count_fields(many) for many in (1, 2, 3, 4)], [count_closed_fields(many) for many in (1, 2, 3, 4)], [count_off_planes(3, number) for number in (2, 3, 4, 7)]]
    [[(0, 2), (1, 2)], [(0, 1), (0, 2), (1, 2)], True, False, [((0, 1), ()), ((0, 1), ((0, 1),)), ((1, 0), ())], 125, [1, 3, 16, 125], [1, 1, 4, 27], [0, 0, 4, 112]]
"""

A, B, D = ((0, 1, 2), ()), ((2, 1, 0), ()), ((1, 0, 2), ((0, 2),))
# Twelve things: all near, all far, all turned round, and between these.
MIDDLE = (tuple(range(12)), ((0, 11),))
FAR = (tuple(range(12)), ())
ROUND = (tuple(range(11, -1, -1)), ())
STAIRS = (tuple(range(12)), tuple((place, place + 3) for place in range(9)))
MIXED = ((3, 0, 5, 1, 4, 2, 9, 7, 11, 6, 8, 10), ((0, 2), (1, 4), (3, 7), (4, 8), (9, 11)))
GREAT = [MIDDLE, FAR, ROUND, STAIRS, MIXED]

NO_FIELDS = NO_TUPLES + [
    (), ((), ()), ((0,),), ((0,), (), ()), ((0,), None), ((0,), 0), ((0,), "()"), (None, ()), (0, ()), ("0", ()),
    [(0,), ()], ([0], ()), ((0,), []), ([0, 1, 2], ()), ((0, 1, 2), []), ((0, 1, 2), [(0, 2)]), ((0, 1, 2), ([0, 2],)),
    ((False,), ()), ((True,), ()), ((0, True), ()), ((False, 1), ((0, 1),)), ((0, 1), ((False, 1),)),
    ((0, 1), ((0, True),)), ((1,), ()), ((0, 0), ()), ((0, 2), ()), ((0, 1, 1), ()), ((0, 1, 3), ()), ((-1, 0), ()),
    ((0, HUGE), ()), ((0, None), ()), ((0, "1"), ()), ((0, (1,)), ()), (tuple(range(13)), ()), (tuple(range(500)), ()),
    ((0, 1), (0, 1)), ((0, 1), ((0, 1, 1),)), ((0, 1), ((0,),)), ((0, 1), ((),)), ((0, 1), ((0, 2),)),
    ((0, 1), ((-1, 1),)), ((0, 1), ((0, HUGE),)), ((0, 1), ((1, 0),)), ((0, 1), ((0, 0),)), ((0, 1), ((1, 1),)),
    ((1, 0), ((0, 1),)), ((2, 1, 0), ((0, 2),)), ((0, 2, 1), ((1, 2),)), ((0, 1), ((0, 1), (0, 1))),
    ((0, 1, 2), ((0, 2), (1, 2))), ((0, 1, 2), ((0, 1), (0, 2))), ((0, 1, 2), ((0, 2), (0, 1))),
    ((0, 1, 2), ((1, 2), (0, 1))), ((0, 1, 2, 3), ((0, 3), (1, 2))), ((0, 1, 2, 3), ((1, 2), (0, 3))),
    ((1, 0), ((1, 0),)), ((1, 2, 0), ((-1, 1),)), ((0, 1), ((0, 1),) * 500), ((0, 1, 2), nested(tuple, 0)), (nested(tuple, 0), ()), nested(tuple, ((0,), ())),
    (((0,), ()),), ((), ((0, 1),)), (((0, 1),), (0, 1))]

NO_POINTS = NO_TUPLES + [
    (), (0, 1), ((0,),), ((0, 1, 1),), ((),), [(0, 1)], ([0, 1],), ((0, True),), ((False, 1),), ((True, 1),),
    ((0, None),), ((0, "1"),), (("0", 1),), (((0,), 1),), ((0, 0),), ((1, 0),), ((0, -1),), ((1, -2),), ((0, 2),),
    ((2, 2),), ((2, 4),), ((6, 9),), ((-2, 4),), ((1, 1001),), ((10 ** 6 + 1, 1),), ((-10 ** 6 - 1, 1),), ((HUGE, 1),),
    ((1, HUGE),), ((0, 1), (0, 1)), ((1, 1), (0, 1)), ((3, 2), (1, 2)), ((1, 3), (1, 2), (-2, 3)),
    ((0, 1), (5, 1), (4, 1)),
    ((0, 1), (2, 1), (0, 1)), ((0, 1), 0), ((0, 1), (1, 2), [1, 3]), tuple((at, 7) for at in range(7, 70, 7)),
    tuple((7 * at + 1, 7) for at in range(13)), ((0, 1),) * 500, nested(tuple, (0, 1)), ((0, 1), nested(tuple, 0))]


def numbers_of(point):
    """The list of the fractions that a point tells."""
    return [fractions.Fraction(top, below) for top, below in point]


def is_on_plane(numbers):
    """Whether a lesser thing has the same number as a greater one, or one greater by 1."""
    return any(one - other in (0, 1) for one, other in itertools.combinations(numbers, 2))


def some_points():
    """Points of one to four things: halves and thirds, and ends of what is allowed."""
    values = [(0, 1), (1, 2), (-1, 3), (4, 3), (2, 1), (-3, 2), (5, 3), (999, 1000), (-7, 10)]
    points = [point for things in (1, 2, 3) for point in itertools.product(values, repeat=things)]
    return points + list(itertools.permutations(values, 4))[::5]


class TestPlaneFields(unittest.TestCase):
    def test_examples(self):
        run_examples(self, EXAMPLES, "planefields")

    def test_which_are_fields(self):
        for field in few_fields() + GREAT:
            self.assertIs(True, is_field(field), field)
        for value in NO_FIELDS:
            self.assertIs(False, is_field(value), value)

    def test_all_fields(self):
        for things in (1, 2, 3, 4):
            self.assertEqual(fields_tried(things), all_fields(things))

    def test_middle_fields(self):
        for things in range(1, 13):
            arcs = ((0, things - 1),) if things > 1 else ()
            self.assertEqual((tuple(range(things)), arcs), middle_field(things))

    def test_near_far_and_closed(self):
        for field in few_fields() + GREAT:
            order, arcs = field
            pairs = [pair for pair in itertools.combinations(range(len(order)), 2)
                     if order.index(pair[0]) < order.index(pair[1])]
            far = [pair for pair in pairs if is_far(field, *pair)]
            self.assertEqual(far, far_things(field), field)
            self.assertEqual([pair for pair in pairs if pair not in far], near_things(field), field)
            gaps = range(len(order) - 1)
            self.assertIs(all(any(first <= at < last for first, last in arcs) for at in gaps), is_closed_field(field))

    def test_fields_of_points(self):
        seen = 0
        for point in some_points():
            numbers = numbers_of(point)
            if is_on_plane(numbers):
                self.assertRaises(InvalidPoint, field_of, point)
                continue
            seen += 1
            field = field_of(point)
            self.assertTrue(is_field(field), field)
            self.assertEqual(sorted(numbers, reverse=True), [numbers[thing] for thing in field[0]])
            pairs = [pair for pair in itertools.combinations(range(len(point)), 2)
                     if numbers[pair[0]] > numbers[pair[1]]]
            self.assertEqual([(one, other) for one, other in pairs if numbers[one] - numbers[other] < 1],
                             near_things(field), point)
            self.assertEqual([(one, other) for one, other in pairs if numbers[one] - numbers[other] > 1],
                             far_things(field), point)
        self.assertGreater(seen, 400)

    def check_point(self, field):
        """See by the numbers that there is a point in a field where one is told to be."""
        point = point_in(field)
        for top, below in point:
            self.assertEqual(1, math.gcd(top, below))
            self.assertTrue(1 <= below <= 1000 and abs(top) <= 10 ** 6)
        numbers = numbers_of(point)
        self.assertFalse(is_on_plane(numbers), field)
        self.assertEqual(tuple(sorted(range(len(point)), key=lambda thing: -numbers[thing])), field[0])
        above = [(one, other, level) for one, other in itertools.combinations(range(len(point)), 2)
                 for level in (0, 1) if numbers[one] - numbers[other] > level]
        self.assertEqual(planes_above(field), above)
        self.assertEqual(field, field_of(point))

    def test_points_in_fields(self):
        for field in few_fields() + GREAT:
            self.check_point(field)

    def test_points_in_great_fields(self):
        # Arcs that reach as far as can be without holding one another, for each step of their ends.
        for step in range(1, 12):
            self.check_point((tuple(range(12)), tuple((place, place + step) for place in range(12 - step))))
            self.check_point((tuple(range(12)), ((0, step),) + (((step, 11),) if step < 11 else ())))
        for ends in itertools.combinations(range(1, 12), 4):
            self.check_point((tuple(range(12)), tuple((at, end) for at, end in enumerate(ends) if at < end)))

    def test_ends_of_what_points_may_have(self):
        self.assertEqual(((0, 1), ()), field_of(((10 ** 6, 1), (-10 ** 6, 1))))
        self.assertEqual(((1, 0), ()), field_of(((-10 ** 6, 1), (10 ** 6, 1))))
        self.assertEqual(((0, 1), ((0, 1),)), field_of(((1, 999), (1, 1000))))
        self.assertEqual(((0, 1), ()), field_of(((1, 999), (-999, 1000))))
        self.assertEqual(((0, 1), ((0, 1),)), field_of(((1, 1000), (-998, 999))))
        self.assertEqual(((0,), ()), field_of(((999999, 1000),)))
        self.assertEqual(((1, 0), ()), field_of(((0, 1), (1, 1))))
        primes = (991, 983, 977, 971, 967, 953, 947, 941, 937, 929, 919, 911)
        self.assertEqual(ROUND, field_of(tuple((1, prime) for prime in primes)))
        self.assertEqual(MIDDLE, field_of(tuple((1, prime) for prime in primes[::-1])))
        self.assertEqual(FAR, field_of(tuple((-2 * at * prime + 1, prime) for at, prime in enumerate(primes))))

    def test_counts(self):
        self.assertEqual([len(fields_tried(things)) for things in (1, 2, 3, 4)],
                         [count_fields(things) for things in (1, 2, 3, 4)])
        closed = [sum(all(any(first <= at < last for first, last in arcs) for at in range(things - 1))
                      for _, arcs in fields_tried(things)) for things in (1, 2, 3, 4)]
        self.assertEqual(closed, [count_closed_fields(things) for things in (1, 2, 3, 4)])
        self.assertEqual([61 ** 59, 59 ** 59, 13 ** 11, 11 ** 11],
                         [count_fields(60), count_closed_fields(60), count_fields(12), count_closed_fields(12)])

    def test_tuples_off_planes(self):
        for things in (1, 2, 3, 4):
            for number in range(1, 8):
                tuples = itertools.product(range(number), repeat=things)
                off = [some for some in tuples
                       if not any((one - other) % number == level % number
                                  for one, other in itertools.combinations(some, 2) for level in (0, 1))]
                self.assertEqual(len(off), count_off_planes(things, number), (things, number))
        most = 10 ** 30
        self.assertEqual([most, most * (most - 12) ** 11, 13, 0, 0, 1],
                         [count_off_planes(1, most), count_off_planes(12, most), count_off_planes(12, 13),
                          count_off_planes(12, 12), count_off_planes(12, 11), count_off_planes(1, 1)])

    def test_limits(self):
        check_limits(self, [(all_fields, [4], [5], 4), (all_fields, [1], [12], 4)])

    def test_wrong_arguments(self):
        check_wrong(self, [(function, [D], [(InvalidField, NO_FIELDS)])
                           for function in (point_in, near_things, far_things, is_closed_field)])
        check_wrong(self, [(field_of, [((3, 2), (0, 1), (1, 4))], [(InvalidPoint, NO_POINTS)]),
                           (middle_field, [3], [(InvalidCars, out_of(1, 12))]),
                           (all_fields, [3], [(InvalidCars, out_of(1, 12))]),
                           (count_fields, [60], [(InvalidCars, out_of(1, 60))]),
                           (count_closed_fields, [60], [(InvalidCars, out_of(1, 60))]),
                           (count_off_planes, [12, 10 ** 30], [(InvalidCars, out_of(1, 12)),
                                                               (InvalidNumber, out_of(1, 10 ** 30))]),
                           (is_field, [D], [NO_ERROR])])

    def test_new_lists(self):
        check_new(self, [(near_things, [D]), (far_things, [A]), (all_fields, [3])])
