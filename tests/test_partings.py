"""Tests of parkedrows.partings: [27], [28], [68]."""

import itertools
import unittest

from parkedrows.errors import InvalidNumber, InvalidParting, InvalidPoints, InvalidTurn, Unlike
from parkedrows.partings import (complement, is_finer, is_parting, joinings, parting_by_turn, parting_join,
                                 parting_meet, parting_turn, parting_turned, partings, splittings)
from tests.helper import (HUGE, NO_ERROR, NO_TUPLES, check_limits, check_new, check_wrong, is_fine, lots_tried, nested,
                          out_of, raised, run_examples, turn_of)

EXAMPLES = """
    >>> A, B = ((0, 3), (1, 2)), ((0,), (1, 3), (2,))
    >>> [is_parting(A), is_parting(((0, 2), (1, 3))), is_parting(((1,), (0,))), parting_turn(A), parting_by_turn((0, 3, 2, 1)) == B, parting_turned(B, 1), complement(A), complement(B), is_finer(B, A), parting_meet(A, B), parting_join(A, B)]
    [True, False, False, (3, 2, 1, 0), True, ((0, 2), (1,), (3,)), ((0, 2), (1,), (3,)), ((0, 3), (1, 2)), False, ((0,), (1,), (2,), (3,)), ((0, 1, 2, 3),)]
    >>> [joinings(A), len(joinings(B)), splittings(A), len(partings(4)), partings(2)]
    [[((0, 1, 2, 3),)], 2, [((0,), (1, 2), (3,)), ((0, 3), (1,), (2,))], 14, [((0,), (1,)), ((0, 1),)]]
"""

A, B = ((0, 3), (1, 2)), ((0,), (1, 3), (2,))
SINGLES = tuple((point,) for point in range(13))
WHOLE = (tuple(range(13)),)
NEST = ((0, 12), (1, 11), (2, 10), (3, 9), (4, 8), (5, 7), (6,))
MIXED = ((0, 4, 5, 12), (1, 2, 3), (6,), (7, 11), (8, 10), (9,))
GREAT = [SINGLES, WHOLE, NEST, MIXED]

NO_PARTINGS = NO_TUPLES + [
    (), ((0,),), ((),), ((0,), ()), ((), (0, 1)), ((0, 1), ()), (0, 1), (0, (1,)), ((0,), 1), [(0,), (1,)], ([0], [1]),
    ((0,), [1]), ([0, 1],), ((0,), (True,)), ((False,), (1,)), ((False, 1),), ((0, True),), ((0,), (None,)),
    ((0,), ("1",)), ((0,), ((1,),)), ((0,), None), ((0,), "1"), ((0, 0),), ((0,), (0,)), ((0, 1), (1,)), ((0,), (2,)),
    ((1,), (2,)), ((0, 2),), ((0,), (-1,)), ((0,), (HUGE,)), ((1,), (0,)), ((1, 0),), ((0, 2), (1, 3)),
    ((1, 2), (0, 3)), ((0, 3), (2, 1)), ((3, 0), (1, 2)), ((0, 2, 1),), ((0, 1, 3), (2, 4)), ((0, 3), (1, 4), (2,)),
    ((0,), (1, 3), (2, 4)), ((0, 2, 4), (1, 5), (3,)), (tuple(range(14)),), tuple((point,) for point in range(14)),
    tuple((point,) for point in range(500)), (tuple(range(500)),), nested(tuple, ((0,), (1,))), nested(tuple, 1),
    (((0,), (1,)),), ((0, 6, 11), (1, 12), (2, 3, 4, 5), (7, 8, 9, 10))]

# Permutations that are not the turn of any parting, and what is none.
NO_TURNS = NO_TUPLES + [(), (0,), (1, 2), (0, 0), (1, 1), (2, 1), (0, 2), (0, True), (False, 1), (1, False), (1, None),
                        (1, "0"), (1, (0,)), [1, 0], (2, 0, 1), (3, 0, 1, 2), (2, 3, 0, 1), (1, 3, 0, 2), (0, 3, 1, 2),
                        (1, 0, HUGE), (-1, 0), tuple(range(14)), tuple(range(1, 14)) + (0,), tuple(range(500)),
                        ((1, 0),), (1, 2, 3, 4, 5, 0, 7, 8, 9, 10, 12, 6, 11), (2, 1, 4, 3, 0, 5, 6)[::-1]]


def comes_by_joining(lots, others):
    """Whether two of the lots joined make the others."""
    return len(lots) == len(others) + 1 and is_fine(lots, others)


def some_pairs(points):
    """Pairs of partings of as many points: all for few, else some."""
    found = lots_tried(points)
    return itertools.product(found[::1 if points < 5 else 3 if points < 6 else 7], found[::1 if points < 6 else 5])


class TestPartings(unittest.TestCase):
    def test_examples(self):
        run_examples(self, EXAMPLES, "partings")

    def test_all_partings(self):
        for points in (2, 3, 4, 5, 6, 7):
            self.assertEqual(lots_tried(points), partings(points))
        self.assertEqual([2, 5, 14, 42, 132, 429], [len(partings(points)) for points in range(2, 8)])

    def test_which_are_partings(self):
        for lots in [lots for points in (2, 3, 4, 5, 6) for lots in lots_tried(points)] + GREAT:
            self.assertIs(True, is_parting(lots), lots)
        for value in NO_PARTINGS:
            self.assertIs(False, is_parting(value), value)

    def test_turns(self):
        for points in (2, 3, 4, 5, 6):
            turns = {turn_of(lots): lots for lots in lots_tried(points)}
            for turn, lots in turns.items():
                self.assertEqual(turn, parting_turn(lots))
                self.assertEqual(lots, parting_by_turn(turn))
            if points < 6:
                for value in itertools.permutations(range(points)):
                    if value not in turns:
                        self.assertRaises(InvalidTurn, parting_by_turn, value)

    def test_turned(self):
        for points in (2, 3, 4, 5):
            for lots in lots_tried(points):
                for steps in (-1000, -7, -1, 0, 1, 2, 3, points, 1000):
                    turned = sorted(tuple(sorted((point + steps) % points for point in lot)) for lot in lots)
                    self.assertEqual(tuple(turned), parting_turned(lots, steps), (lots, steps))

    def test_complements(self):
        for points in (2, 3, 4, 5, 6):
            found = []
            for lots in lots_tried(points):
                other = complement(lots)
                found.append(other)
                turn, along = turn_of(lots), turn_of(other)
                # The one turn behind the other one makes the long one.
                self.assertEqual(tuple(range(1, points)) + (0,), tuple(turn[along[point]] for point in range(points)))
            self.assertEqual(lots_tried(points), sorted(found))

    def test_finer(self):
        for points in (2, 3, 4, 5, 6):
            for one, other in some_pairs(points):
                self.assertIs(is_fine(one, other), is_finer(one, other), (one, other))

    def test_meets_and_joins(self):
        for points in (2, 3, 4, 5, 6):
            every = lots_tried(points)
            finer = {lots: {other for other in every if is_fine(other, lots)} for lots in every}
            rougher = {lots: {other for other in every if is_fine(lots, other)} for lots in every}
            for one, other in some_pairs(points):
                below, above = finer[one] & finer[other], rougher[one] & rougher[other]
                meet, = [lots for lots in below if below <= finer[lots]]
                join, = [lots for lots in above if above <= rougher[lots]]
                self.assertEqual([meet, join], [parting_meet(one, other), parting_join(one, other)], (one, other))

    def test_joinings_and_splittings(self):
        for points in (2, 3, 4, 5, 6):
            every = lots_tried(points)
            for lots in every:
                self.assertEqual([other for other in every if comes_by_joining(lots, other)], joinings(lots), lots)
                self.assertEqual([other for other in every if comes_by_joining(other, lots)], splittings(lots), lots)

    def test_thirteen_points(self):
        self.assertEqual([[], [], 78, 78], [joinings(WHOLE), splittings(SINGLES), len(joinings(SINGLES)),
                                            len(splittings(WHOLE))])
        self.assertEqual([SINGLES, WHOLE], [complement(WHOLE), complement(SINGLES)])
        for lots in GREAT:
            self.assertEqual(turn_of(lots), parting_turn(lots))
            self.assertEqual(lots, parting_by_turn(turn_of(lots)))
            self.assertEqual([lots, SINGLES, WHOLE, lots],
                             [parting_meet(lots, WHOLE), parting_meet(SINGLES, lots), parting_join(lots, WHOLE),
                              parting_join(SINGLES, lots)])
            turn, along = turn_of(lots), turn_of(complement(lots))
            self.assertEqual(list(range(1, 13)) + [0], [turn[along[point]] for point in range(13)])
            for other in joinings(lots):
                self.assertTrue(is_parting(other) and comes_by_joining(lots, other))
                self.assertIn(lots, splittings(other))
            for found in (joinings(lots), splittings(lots)):
                self.assertEqual(sorted(set(found)), found)
        self.assertEqual(((0, 1), (2, 12), (3, 11), (4, 10), (5, 9), (6, 8), (7,)), parting_turned(NEST, 1))
        self.assertEqual(parting_turned(NEST, 12), parting_turned(NEST, 1000))
        self.assertEqual(SINGLES, parting_meet(NEST, parting_turned(NEST, 1)))
        self.assertEqual(WHOLE, parting_join(NEST, parting_turned(NEST, 1)))

    def test_two_points(self):
        apart, whole = ((0,), (1,)), ((0, 1),)
        self.assertEqual([whole, apart, [whole], [], [], [apart]],
                         [complement(apart), complement(whole), joinings(apart), joinings(whole), splittings(apart),
                          splittings(whole)])

    def test_limits(self):
        check_limits(self, [(partings, [7], [8], 7), (partings, [2], [13], 7)])

    def test_unlike_behind_the_errors_of_both(self):
        for function in (is_finer, parting_meet, parting_join):
            for one, other in itertools.permutations((A, WHOLE, ((0,), (1,)), ((0,), (1, 2), (3,), (4,))), 2):
                self.assertIs(Unlike, raised(function, [one, other]).__class__)
            self.assertIs(InvalidParting, raised(function, [A, ((0,), (2,))]).__class__)
            self.assertIs(InvalidParting, raised(function, [((1,), (0,)), A]).__class__)

    def test_wrong_arguments(self):
        check_wrong(self, [(function, [A], [(InvalidParting, NO_PARTINGS)])
                           for function in (parting_turn, complement, joinings, splittings)])
        check_wrong(self, [(function, [A, B], [(InvalidParting, NO_PARTINGS), (InvalidParting, NO_PARTINGS)])
                           for function in (is_finer, parting_meet, parting_join)])
        check_wrong(self, [(parting_by_turn, [(0, 3, 2, 1)], [(InvalidTurn, NO_TURNS)]),
                           (parting_turned, [A, -1000], [(InvalidParting, NO_PARTINGS),
                                                         (InvalidNumber, out_of(-1000, 1000))]),
                           (partings, [7], [(InvalidPoints, out_of(2, 13))]),
                           (is_parting, [A], [NO_ERROR])])

    def test_new_lists(self):
        check_new(self, [(joinings, [B]), (splittings, [A]), (partings, [4])])
