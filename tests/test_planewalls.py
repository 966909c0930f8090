"""Tests of parkedrows.planewalls: [23] to [26], [66]."""

import itertools
import unittest

from parkedrows.errors import InvalidField, InvalidPlane, Unlike
from parkedrows.planefields import middle_field
from parkedrows.planewalls import (ceilings_of, field_distance, floors_of, plane_crossed, plane_way, planes_between,
                                   walls_of)
from tests.helper import (HUGE, NO_TUPLES, check_new, check_wrong, fields_tried, nested, planes_above, raised,
                          run_examples)
from tests.test_planefields import A, B, D, FAR, GREAT, MIDDLE, MIXED, NO_FIELDS, ROUND

EXAMPLES = """
    >>> A, B, D = ((0, 1, 2), ()), ((2, 1, 0), ()), ((1, 0, 2), ((0, 2),))
    >>> C = middle_field(3)
    >>> [planes_between(C, D), field_distance(A, B), walls_of(C), floors_of(C), walls_of(D), floors_of(D), ceilings_of(D), plane_crossed(C, (0, 2, 1)), plane_crossed(C, (0, 1, 0)) == D, plane_way(C, D), len(plane_way(A, B)), plane_way(D, D)]
    [[(0, 1, 0)], 6, [(0, 1, 0), (0, 2, 1), (1, 2, 0)], [], [(0, 1, 0), (0, 2, 0), (1, 2, 1)], [(0, 1, 0)], [(0, 2, 0), (1, 2, 1)], ((0, 1, 2), ((0, 1), (1, 2))), True, ((0, 1, 0),), 6, ()]
"""

C = ((0, 1, 2), ((0, 2),))
# What is no wall of C, or no plane at all.
NO_WALLS = NO_TUPLES + [(), (0, 1), (0, 1, 0, 0), (0, 2, 0), (0, 1, 1), (1, 2, 1), (1, 0, 0), (2, 1, 0), (0, 0, 0),
                        (1, 1, 1), (0, 3, 0), (-1, 1, 0), (0, 1, 2), (0, 1, -1), (0, 1, False), (0, True, 0),
                        (False, 1, 0), (True, 2, 0), (0, 1, None), (0, "1", 0), (0, (1,), 0), [0, 1, 0], (0, HUGE, 0),
                        (0, 1, HUGE), ((0, 1, 0),), (0, 11, 0), nested(tuple, (0, 1, 0))]


def sides(fields):
    """The dict of the planes that each field is above."""
    return {field: set(planes_above(field)) for field in fields}


def walls_by_all(fields):
    """For each field the dict of the fields behind its walls, found by comparing all fields."""
    above = sides(fields)
    found = {field: {} for field in fields}
    for field, other in itertools.permutations(fields, 2):
        between = above[field] ^ above[other]
        if len(between) == 1:
            found[field][between.pop()] = other
    return found


def steps_from(field, walls):
    """The dict of how many walls lead to each field, by a walk through all fields."""
    steps, line = {field: 0}, [field]
    for here in line:
        for there in walls[here].values():
            if there not in steps:
                steps[there] = steps[here] + 1
                line.append(there)
    return steps


class TestPlaneWalls(unittest.TestCase):
    def test_examples(self):
        run_examples(self, EXAMPLES, "planewalls planefields")

    def check_way(self, field, other):
        """See that a way leads from wall to wall to the other field, and crosses what parts both, once."""
        way = plane_way(field, other)
        self.assertIsInstance(way, tuple)
        here = field
        for plane in way:
            # This is refused for what is no wall.
            here = plane_crossed(here, plane)
        self.assertEqual(other, here)
        self.assertEqual(sorted(set(planes_above(field)) ^ set(planes_above(other))), sorted(way))

    def test_planes_between(self):
        for things in (1, 2, 3, 4):
            fields = fields_tried(things)[::1 if things < 4 else 6]
            above = sides(fields)
            for field, other in itertools.product(fields, repeat=2):
                between = sorted(above[field] ^ above[other])
                self.assertEqual(between, planes_between(field, other))
                self.assertEqual(len(between), field_distance(field, other))

    def test_walls_floors_and_ceilings(self):
        for things in (1, 2, 3, 4):
            fields = fields_tried(things)
            walls = walls_by_all(fields)
            middle = set(planes_above((tuple(range(things)), ((0, things - 1),) if things > 1 else ())))
            for field in fields:
                self.assertEqual(sorted(walls[field]), walls_of(field), field)
                away = middle ^ set(planes_above(field))
                self.assertEqual(sorted(away & set(walls[field])), floors_of(field), field)
                self.assertEqual(sorted(set(walls[field]) - away), ceilings_of(field), field)

    def test_crossings(self):
        for things in (1, 2, 3, 4):
            fields = fields_tried(things)
            walls = walls_by_all(fields)
            for field in fields:
                for plane in itertools.product(range(things), range(things), (0, 1)):
                    if plane in walls[field]:
                        self.assertEqual(walls[field][plane], plane_crossed(field, plane))
                    else:
                        self.assertRaises(InvalidPlane, plane_crossed, field, plane)

    def test_shortest_ways(self):
        for things in (1, 2, 3, 4):
            fields = fields_tried(things)
            walls = walls_by_all(fields)
            for field in fields[::1 if things < 4 else 11]:
                steps = steps_from(field, walls)
                self.assertEqual(len(fields), len(steps))
                for other in fields:
                    self.assertEqual(steps[other], field_distance(field, other))
                    if things < 4 or steps[other] > 9:
                        self.check_way(field, other)

    def test_twelve_things(self):
        for field, other in itertools.product(GREAT, repeat=2):
            self.check_way(field, other)
        self.assertEqual([66, 66, 132, 0], [field_distance(MIDDLE, FAR), field_distance(MIDDLE, ROUND),
                                            field_distance(FAR, ROUND), field_distance(MIXED, MIXED)])
        self.assertEqual([(at, at + 1, 0) for at in range(11)], walls_of(ROUND))
        self.assertEqual([(at, at + 1, 1) for at in range(11)], walls_of(FAR))
        # The middle field's walls: neighbours that change places, and the first and last thing that get far.
        self.assertEqual([(0, 1, 0), (0, 11, 1)] + [(at, at + 1, 0) for at in range(1, 11)], walls_of(MIDDLE))
        self.assertEqual([[], walls_of(MIDDLE)], [floors_of(MIDDLE), ceilings_of(MIDDLE)])
        self.assertEqual([walls_of(FAR), []], [floors_of(FAR), ceilings_of(FAR)])
        for field in GREAT:
            self.assertEqual(walls_of(field), sorted(floors_of(field) + ceilings_of(field)))
            for plane in walls_of(field):
                behind = plane_crossed(field, plane)
                self.assertEqual([plane], planes_between(field, behind))
                self.assertEqual(field, plane_crossed(behind, plane))

    def test_one_thing(self):
        only = middle_field(1)
        self.assertEqual([[], 0, [], [], [], ()], [planes_between(only, only), field_distance(only, only),
                                                   walls_of(only), floors_of(only), ceilings_of(only),
                                                   plane_way(only, only)])
        self.assertRaises(InvalidPlane, plane_crossed, only, (0, 1, 0))

    def test_unlike_behind_the_errors_of_both(self):
        for function in (planes_between, field_distance, plane_way):
            for field, other in itertools.permutations((A, MIDDLE, ((0,), ())), 2):
                self.assertIs(Unlike, raised(function, [field, other]).__class__)
            self.assertIs(InvalidField, raised(function, [A, ((0, 1), ((1, 0),))]).__class__)
            self.assertIs(InvalidField, raised(function, [((0, 1), [(0, 1)]), A]).__class__)

    def test_wrong_arguments(self):
        check_wrong(self, [(function, [A, B], [(InvalidField, NO_FIELDS), (InvalidField, NO_FIELDS)])
                           for function in (planes_between, field_distance, plane_way)])
        check_wrong(self, [(function, [D], [(InvalidField, NO_FIELDS)])
                           for function in (walls_of, floors_of, ceilings_of)])
        check_wrong(self, [(plane_crossed, [C, (0, 2, 1)], [(InvalidField, NO_FIELDS), (InvalidPlane, NO_WALLS)])])

    def test_new_lists(self):
        check_new(self, [(planes_between, [A, B]), (walls_of, [D]), (floors_of, [D]), (ceilings_of, [D])])
