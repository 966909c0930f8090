"""Tests of parkedrows.planelabels: [26], [67]."""

import itertools
import unittest

from parkedrows.errors import InvalidField, InvalidPlane, InvalidRow
from parkedrows.planefields import is_field
from parkedrows.planelabels import field_by_label, field_label, label_item
from parkedrows.planewalls import ceilings_of, plane_crossed
from tests.helper import (HUGE, NO_TUPLES, check_wrong, few_fields, fields_tried, is_far, nested, rows_driven,
                          run_examples)
from tests.test_planefields import FAR, GREAT, MIDDLE, NO_FIELDS, ROUND, D
from tests.test_rows import NO_ROWS

EXAMPLES = """
    >>> A, B, D = ((0, 1, 2), ()), ((2, 1, 0), ()), ((1, 0, 2), ((0, 2),))
    >>> [field_label(A), field_label(B), field_label(D) == P, field_by_label(L) == middle_field(3), field_by_label((0, 2, 1)), field_by_label((0, 0, 1)), field_by_label(P) == D, label_item((0, 2, 1)), label_item((0, 1, 0))]
    [(0, 1, 2), (2, 1, 0), True, True, ((0, 2, 1), ()), ((0, 1, 2), ((0, 1), (1, 2))), True, 2, 0]
"""

NO_PLANES = NO_TUPLES + [(), (0, 1), (0, 1, 0, 0), (1, 0, 0), (0, 0, 1), (0, 12, 0), (11, 12, 1), (-1, 3, 0), (0, 1, 2),
                         (0, 1, -1), (0, 1, False), (0, 1, True), (0, True, 0), (False, 1, 0), (0, 1, None),
                         (0, "1", 0), (0, (1,), 0), [0, 1, 0], (0, HUGE, 0), (0, 1, HUGE), ((0, 1, 0),),
                         nested(tuple, (0, 1, 0))]


def label_counted(field):
    """The tuple of how many greater things, and lesser ones that are far, are ahead of each thing."""
    order = field[0]
    label = []
    for thing in range(len(order)):
        ahead = order[:order.index(thing)]
        label.append(len([other for other in ahead if other > thing])
                     + len([other for other in ahead if other < thing and is_far(field, other, thing)]))
    return tuple(label)


class TestPlaneLabels(unittest.TestCase):
    def test_examples(self):
        run_examples(self, EXAMPLES, "planelabels planefields")

    def test_labels(self):
        for field in few_fields() + GREAT:
            self.assertEqual(label_counted(field), field_label(field), field)

    def test_labels_there_and_back(self):
        for things in (1, 2, 3, 4):
            fields = fields_tried(things)
            by_label = {label_counted(field): field for field in fields}
            self.assertEqual(rows_driven(things), sorted(by_label))
            for row in by_label:
                self.assertEqual(by_label[row], field_by_label(row))
        for row in rows_driven(5):
            field = field_by_label(row)
            self.assertTrue(is_field(field))
            self.assertEqual(row, label_counted(field))

    def test_twelve_things(self):
        self.assertEqual([MIDDLE, FAR, ROUND], [field_by_label((0,) * 12), field_by_label(tuple(range(12))),
                                                field_by_label(tuple(range(11, -1, -1)))])
        for field in GREAT:
            self.assertEqual(field, field_by_label(field_label(field)))
        for start in range(12):
            for step in (1, 5, 7, 11):
                order = [(start + step * at) % 12 for at in range(12)]
                for row in (order, [wish // 2 for wish in order], [wish * wish // 12 for wish in order]):
                    row = tuple(row)
                    field = field_by_label(row)
                    self.assertTrue(is_field(field))
                    self.assertEqual(row, label_counted(field))

    def test_one_thing(self):
        self.assertEqual([(0,), ((0,), ())], [field_label(((0,), ())), field_by_label((0,))])

    def test_items_by_crossings(self):
        for field in few_fields() + GREAT:
            label = field_label(field)
            for plane in ceilings_of(field):
                behind = field_label(plane_crossed(field, plane))
                self.assertEqual([(label_item(plane), 1)],
                                 [(thing, behind[thing] - label[thing]) for thing in range(len(label))
                                  if behind[thing] != label[thing]])

    def test_items_of_all_planes(self):
        for one, other in itertools.combinations(range(12), 2):
            self.assertEqual([one, other], [label_item((one, other, 0)), label_item((one, other, 1))])

    def test_wrong_arguments(self):
        check_wrong(self, [(field_label, [D], [(InvalidField, NO_FIELDS)]),
                           (field_by_label, [(1, 0, 0)], [(InvalidRow, NO_ROWS)]),
                           (label_item, [(10, 11, 1)], [(InvalidPlane, NO_PLANES)])])
