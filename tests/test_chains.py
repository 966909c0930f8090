"""Tests of parkedrows.chains: [29], [30], [69]."""

import itertools
import unittest

from parkedrows.chains import are_exchanges, chain_of, exchanges_of, is_chain, row_of_chain, row_of_exchanges
from parkedrows.errors import InvalidChain, InvalidExchanges, InvalidRow
from tests.helper import (HUGE, NO_TUPLES, chains_tried, check_wrong, exchanges_done, exchanges_tried, lots_tried,
                          nested, rows_driven, run_examples, turn_of)
from tests.test_rows import NO_ROWS

EXAMPLES = """
    >>> [exchanges_of(P), exchanges_of(U), exchanges_of(L), exchanges_of(W), row_of_exchanges(((0, 2), (0, 1))), are_exchanges(((0, 1), (0, 2))), are_exchanges(()), chain_of((1, 0))]
    [((1, 2), (0, 3), (0, 2)), ((0, 1), (1, 2), (2, 3)), ((0, 3), (0, 2), (0, 1)), ((2, 3), (0, 4), (0, 1), (1, 3)), (0, 0), False, False, (((0,), (1,), (2,)), ((0,), (1, 2)), ((0, 1, 2),))]
    >>> [chain_of(P)[2] == ((0, 3), (1, 2)), row_of_chain(chain_of(W)) == W, is_chain(chain_of(L)), is_chain(chain_of(L)[::-1]), is_chain((((0,),),))]
    [True, True, True, False, False]
"""

SINGLE, WHOLE = ((0,), (1,)), ((0, 1),)
THREE = (((0,), (1,), (2,)), ((0,), (1, 2)), ((0, 1, 2),))

NO_CHAINS = NO_TUPLES + [
    (), (SINGLE,), (WHOLE,), (WHOLE, SINGLE), (SINGLE, WHOLE, WHOLE), (SINGLE, SINGLE, WHOLE), [SINGLE, WHOLE],
    ([(0,), (1,)], WHOLE), (([0], [1]), WHOLE), (SINGLE, [(0, 1)]), (SINGLE, ([0, 1],)), (SINGLE, None), (SINGLE, 0),
    (((0,), (True,)), WHOLE), (SINGLE, ((False, 1),)), (SINGLE, ((0, True),)), (SINGLE, ((0, 1, 2),)), THREE[:2],
    THREE[1:], THREE[::-1], THREE + THREE[2:], (THREE[0], THREE[1], THREE[1]), (THREE[0], THREE[0], THREE[2]),
    (THREE[0], THREE[2], THREE[1]), (THREE[1], THREE[0], THREE[2]), (SINGLE, THREE[1], THREE[2]),
    (THREE[0], ((1, 2), (0,)), THREE[2]), (THREE[0], ((0,), (2, 1)), THREE[2]), (((0,),),), (((0,),), ((0,),)),
    (((0,), (1,), (2,), (3,)), ((0, 1), (2,), (3,)), ((0, 2, 3), (1,)), ((0, 1, 2, 3),)),
    (((0,), (1,), (2,), (3,)), ((0, 2), (1,), (3,)), ((0, 2), (1, 3)), ((0, 1, 2, 3),)),
    (((0,), (1,), (2,), (3,)), ((0, 1), (2,), (3,)), ((0, 1, 2, 3),)),
    (((0,), (1,), (2,), (3,)), ((0, 1), (2,), (3,)), ((0, 1, 2, 3),), ((0, 1, 2, 3),)),
    (tuple((point,) for point in range(14)),) * 14, (SINGLE, WHOLE) * 250, (SINGLE, nested(tuple, 0)),
    nested(tuple, (SINGLE, WHOLE)), ((SINGLE, WHOLE),), (SINGLE, ((0, HUGE),))]

NO_EXCHANGES = NO_TUPLES + [
    (), (0, 1), ((0,),), ((0, 1, 1),), ((),), [(0, 1)], ([0, 1],), ((0, True),), ((False, 1),), ((0, None),),
    ((0, "1"),), ((0, (1,)),), ((1, 0),), ((0, 0),), ((1, 1),), ((0, 2),), ((1, 2),), ((-1, 1),), ((-1, 0),), ((0, HUGE),),
    ((0, 1), (0, 2)), ((0, 1), (0, 1)), ((0, 1), (1, 3)), ((0, 2), (1, 0)), ((2, 0), (0, 1)), ((0, 2), [0, 1]),
    ((0, 2), (0, True)), ((1, 2), (0, 3), (0, 1)), ((1, 2), (0, 3), (0, 2), (0, 2)),
    ((0, 1), (1, 2), (2, 3), (3, 4), (4, 6)),
    ((0, 1), (2, 3), (0, 1)), tuple((point, point + 1) for point in range(13)), ((0, 1),) * 500, nested(tuple, (0, 1)),
    (((0, 1),),), ((0, 1), None), ((0, 1), 1)]


def some_great_rows():
    """Parked rows of twelve cars of many forms."""
    found = [(0,) * 12, tuple(range(12)), tuple(range(11, -1, -1))]
    for start in range(12):
        for step in (1, 5, 7, 11):
            order = [(start + step * at) % 12 for at in range(12)]
            found += [tuple(order), tuple(wish // 2 for wish in order), tuple(wish * wish // 12 for wish in order)]
    return found


class TestChains(unittest.TestCase):
    def test_examples(self):
        run_examples(self, EXAMPLES, "chains")

    def test_which_are_chains(self):
        for points in (2, 3):
            chains = chains_tried(points)
            for many in range(1, points + 2):
                for value in itertools.product(lots_tried(points), repeat=many):
                    self.assertIs(value in chains, is_chain(value), value)
        for chain in chains_tried(4) + chains_tried(5):
            self.assertIs(True, is_chain(chain))
            self.assertIs(False, is_chain(chain[1:]) or is_chain(chain[:-1]) or is_chain(chain + chain[-1:]))
            self.assertIs(False, is_chain(chain[:1] + chain[2:3] + chain[1:2] + chain[3:]))
        for value in NO_CHAINS:
            self.assertIs(False, is_chain(value), value)

    def test_rows_of_chains(self):
        for points in (2, 3, 4, 5):
            rows = []
            for chain in chains_tried(points):
                row = []
                for before, behind in zip(chain, chain[1:]):
                    former, latter = sorted(set(before) - set(behind))
                    row.append(max(point for point in former if point < min(latter)))
                rows.append(tuple(row))
                self.assertEqual(tuple(row), row_of_chain(chain))
                self.assertEqual(chain, chain_of(tuple(row)))
            self.assertEqual(rows_driven(points - 1), sorted(rows))

    def test_which_are_rows_of_exchanges(self):
        for cars in (1, 2, 3, 4):
            rows = set(exchanges_tried(cars))
            pairs = list(itertools.combinations(range(cars + 1), 2))
            for value in itertools.product(pairs, repeat=cars):
                self.assertIs(value in rows, are_exchanges(value), value)
        for value in NO_EXCHANGES:
            self.assertIs(False, are_exchanges(value), value)

    def test_exchanges_of_chains(self):
        for cars in (1, 2, 3, 4):
            rows = []
            for exchanges in exchanges_tried(cars):
                row = row_of_exchanges(exchanges)
                rows.append(row)
                # The tuples on the way are the turns of the partings of the chain.
                self.assertEqual(exchanges_done(exchanges), [turn_of(lots) for lots in chain_of(row)])
                self.assertEqual(exchanges, exchanges_of(row))
            self.assertEqual(rows_driven(cars), sorted(rows))

    def test_twelve_cars(self):
        for row in some_great_rows():
            chain, exchanges = chain_of(row), exchanges_of(row)
            self.assertTrue(is_chain(chain))
            self.assertEqual([row, row], [row_of_chain(chain), row_of_exchanges(exchanges)])
            self.assertEqual([turn_of(lots) for lots in chain], exchanges_done(exchanges))
            self.assertIs(True, are_exchanges(exchanges))
            self.assertIs(False, is_chain(chain[::-1]) or is_chain(chain[1:]) or is_chain(chain[:12]))
        self.assertEqual(tuple((0, point) for point in range(12, 0, -1)), exchanges_of((0,) * 12))
        self.assertEqual(tuple((point, point + 1) for point in range(12)), exchanges_of(tuple(range(12))))

    def test_one_car(self):
        self.assertEqual([(SINGLE, WHOLE), (0,), ((0, 1),), (0,), True, True],
                         [chain_of((0,)), row_of_chain((SINGLE, WHOLE)), exchanges_of((0,)),
                          row_of_exchanges(((0, 1),)), is_chain((SINGLE, WHOLE)), are_exchanges(((0, 1),))])

    def test_wrong_arguments(self):
        check_wrong(self, [(chain_of, [(1, 0)], [(InvalidRow, NO_ROWS)]),
                           (exchanges_of, [(1, 0)], [(InvalidRow, NO_ROWS)]),
                           (row_of_chain, [THREE], [(InvalidChain, NO_CHAINS)]),
                           (row_of_exchanges, [((0, 2), (0, 1))], [(InvalidExchanges, NO_EXCHANGES)])])
