"""Tests of parkedrows.exchangemoves: [31], [70]."""

import itertools
import unittest

from parkedrows.chains import exchanges_of
from parkedrows.errors import InvalidExchanges, InvalidNumber, TooMany, Unlike
from parkedrows.exchangemoves import (exchanges_mirrored, exchanges_round, exchanges_turned, moved_ahead, moved_behind,
                                      moves_to)
from tests.helper import check_limits, check_wrong, exchanges_done, exchanges_tried, out_of, raised, run_examples
from tests.test_chains import NO_EXCHANGES, some_great_rows

EXAMPLES = """
    >>> X, Y = exchanges_of(P), exchanges_of((0, 0))
    >>> [moved_ahead(X, 0), moved_ahead(X, 1), moved_behind(X, 1), moved_ahead(Y, 0), moved_behind(moved_ahead(X, 1), 1) == X, exchanges_turned(Y, 1), exchanges_mirrored(Y), exchanges_round(Y), moves_to(Y, Y), moves_to(Y, ((1, 2), (0, 2)))]
    [((0, 3), (1, 2), (0, 2)), ((1, 2), (0, 2), (2, 3)), ((1, 2), (2, 3), (0, 3)), ((0, 1), (1, 2)), True, ((0, 1), (1, 2)), ((1, 2), (0, 2)), ((0, 1), (1, 2)), (), (('behind', 0),)]
"""

X, Y, ONE = ((1, 2), (0, 3), (0, 2)), ((0, 2), (0, 1)), ((0, 1),)
FOUR, FIVE = exchanges_of((0, 0, 0, 0)), exchanges_of((0, 0, 0, 0, 0))
GREAT = [exchanges_of(row) for row in some_great_rows()[::7]]


def some_exchanges():
    """All rows of exchanges of one to four cars, and some of twelve."""
    return [exchanges for cars in (1, 2, 3, 4) for exchanges in exchanges_tried(cars)] + GREAT


def changed(pair, other):
    """A pair with the points of the other one changed for one another, the lesser one first."""
    swap = {other[0]: other[1], other[1]: other[0]}
    return tuple(sorted(swap.get(point, point) for point in pair))


def ahead_by_items(exchanges, index):
    """A row of exchanges with the one behind an index moved ahead, item by item."""
    items = list(exchanges)
    moved = items.pop(index + 1)
    items[index] = changed(items[index], moved)
    items.insert(index, moved)
    return tuple(items)


def behind_by_items(exchanges, index):
    """A row of exchanges with the one at an index moved behind, item by item."""
    items = list(exchanges)
    moved = items.pop(index)
    items[index] = changed(items[index], moved)
    items.insert(index + 1, moved)
    return tuple(items)


def fewest_moves(exchanges):
    """The dict of how few moves lead to each row of exchanges, by a walk through all."""
    found, line = {exchanges: 0}, [exchanges]
    for here in line:
        for index in range(len(here) - 1):
            for there in (ahead_by_items(here, index), behind_by_items(here, index)):
                if there not in found:
                    found[there] = found[here] + 1
                    line.append(there)
    return found


class TestExchangeMoves(unittest.TestCase):
    def test_examples(self):
        run_examples(self, EXAMPLES, "exchangemoves chains")

    def test_moves(self):
        for exchanges in some_exchanges():
            for index in range(len(exchanges) - 1):
                self.assertEqual(ahead_by_items(exchanges, index), moved_ahead(exchanges, index))
                self.assertEqual(behind_by_items(exchanges, index), moved_behind(exchanges, index))

    def test_turned_mirrored_and_led_round(self):
        for exchanges in some_exchanges():
            around = len(exchanges) + 1

            def by(steps, pairs):
                return tuple(tuple(sorted((point + steps) % around for point in pair)) for pair in pairs)

            for steps in (-1000, -3, -1, 0, 1, 2, around, 1000):
                self.assertEqual(by(steps, exchanges), exchanges_turned(exchanges, steps))
            self.assertEqual(exchanges[1:] + by(-1, exchanges[:1]), exchanges_round(exchanges))
            mirrored = tuple(tuple(sorted(len(exchanges) - point for point in pair)) for pair in reversed(exchanges))
            self.assertEqual(mirrored, exchanges_mirrored(exchanges))
            for other in (mirrored, exchanges_round(exchanges), exchanges_turned(exchanges, 1)):
                self.assertEqual(tuple(range(1, around)) + (0,), exchanges_done(other)[-1])

    def check_way(self, exchanges, other, fewest):
        """See that moves are as few as can be, and lead to the other row of exchanges."""
        moves = moves_to(exchanges, other)
        self.assertIsInstance(moves, tuple)
        self.assertEqual(fewest, len(moves))
        here = exchanges
        for word, index in moves:
            here = {"ahead": ahead_by_items, "behind": behind_by_items}[word](here, index)
        self.assertEqual(other, here)

    def test_fewest_moves(self):
        for cars in (1, 2, 3):
            rows = exchanges_tried(cars)
            for exchanges in rows:
                fewest = fewest_moves(exchanges)
                self.assertEqual(rows, sorted(fewest))
                for other in rows:
                    self.check_way(exchanges, other, fewest[other])
        rows = exchanges_tried(4)
        for exchanges in rows[::25]:
            fewest = fewest_moves(exchanges)
            self.assertEqual(rows, sorted(fewest))
            for other in rows:
                self.check_way(exchanges, other, fewest[other])

    def test_one_car(self):
        self.assertEqual([ONE, ONE, ONE, ()], [exchanges_turned(ONE, 1), exchanges_mirrored(ONE), exchanges_round(ONE),
                                               moves_to(ONE, ONE)])
        for function in (moved_ahead, moved_behind):
            for index in (0, 1, -1):
                self.assertIs(InvalidNumber, raised(function, [ONE, index]).__class__)

    def test_limits_behind_unlike(self):
        check_limits(self, [(moves_to, [FOUR, exchanges_of((0, 1, 2, 3))],
                             [FIVE, exchanges_of((0, 1, 2, 3, 4))], 4),
                            (moves_to, [FOUR, FOUR], [FIVE, FIVE], 4), (moves_to, [Y, Y], [GREAT[0], GREAT[1]], 4)])
        for one, other in itertools.permutations((ONE, Y, X, FOUR, FIVE, GREAT[0]), 2):
            self.assertIs(Unlike, raised(moves_to, [one, other]).__class__)
        self.assertFalse(issubclass(Unlike, TooMany))

    def test_wrong_arguments(self):
        check_wrong(self, [(function, [X, 1], [(InvalidExchanges, NO_EXCHANGES), (InvalidNumber, out_of(0, 1))])
                           for function in (moved_ahead, moved_behind)])
        check_wrong(self, [(function, [X], [(InvalidExchanges, NO_EXCHANGES)])
                           for function in (exchanges_mirrored, exchanges_round)])
        check_wrong(self, [(exchanges_turned, [X, 1000], [(InvalidExchanges, NO_EXCHANGES),
                                                          (InvalidNumber, out_of(-1000, 1000))]),
                           (moves_to, [X, X], [(InvalidExchanges, NO_EXCHANGES), (InvalidExchanges, NO_EXCHANGES)])])
        for value in NO_EXCHANGES:
            self.assertIs(InvalidExchanges, raised(moves_to, [FIVE, value]).__class__)
