"""Tests of parkedrows.webcounts: [37], [39], [78]."""

import itertools
import unittest

from parkedrows.errors import InvalidNumber
from parkedrows.webcounts import count_connected, excess_spread
from tests.helper import HUGE, NO_INTEGERS, check_wrong, out_of, run_examples, tally, webs_tried

EXAMPLES = """
    >>> [excess_spread(1), excess_spread(2), excess_spread(3), count_connected(3, 4), count_connected(3, 2), count_connected(3, 7), sum(excess_spread(4))]
    [(1,), (3, 1), (16, 15, 6, 1), 15, 0, 0, 728]
"""


def connected_by_lots(most):
    """For 0 corners, 1 and so on, the list of how many meshes have 0 ties, 1 and so on, told from all lots of ties.

    Of all lots those are taken away in which the root hangs together with fewer corners only.
    """
    choose = [[1]]
    for _ in range(most * (most + 1) // 2):
        choose.append([1] + [one + other for one, other in zip(choose[-1], choose[-1][1:])] + [1])
    found = []
    for many in range(most + 1):
        counts = list(choose[many * (many + 1) // 2])
        for fewer in range(many):
            # So many other corners hang together with the root, and the rest has any ties.
            rest = choose[(many - fewer) * (many - fewer - 1) // 2]
            for one, other in itertools.product(range(len(found[fewer])), range(len(rest))):
                counts[one + other] -= choose[many][fewer] * found[fewer][one] * rest[other]
        found.append(counts)
    return found


class TestWebCounts(unittest.TestCase):
    def test_examples(self):
        run_examples(self, EXAMPLES, "webcounts")

    def test_all_lots_of_ties(self):
        # The webs are just the meshes.
        for corners in (1, 2, 3, 4):
            counts = tally(len(ties) for _, ties in webs_tried(corners))
            self.assertEqual([counts.get(ties, 0) for ties in range(25)],
                             [count_connected(corners, ties) for ties in range(25)])
            self.assertEqual(tuple(counts[ties] for ties in sorted(counts)), excess_spread(corners))

    def test_more_corners(self):
        for corners, counts in list(enumerate(connected_by_lots(16)))[1:]:
            self.assertEqual(tuple(counts[corners:]), excess_spread(corners))
            for ties in range(0, len(counts) + 8, 1 + corners // 4):
                self.assertEqual((counts + [0] * 8)[ties], count_connected(corners, ties))

    def test_sixteen_corners(self):
        spread = excess_spread(16)
        self.assertEqual([17 ** 15, 121, 1, 136], [spread[0], len(spread), spread[-1], spread[-2]])
        self.assertEqual([17 ** 15, 1, 0, 0, 0], [count_connected(16, ties) for ties in (16, 136, 137, 15, 0)])
        self.assertEqual([0, 0], [count_connected(16, HUGE), count_connected(1, 10 ** 30)])

    def test_wrong_arguments(self):
        no_number = NO_INTEGERS + [-1, -1000, -HUGE]
        check_wrong(self, [(excess_spread, [16], [(InvalidNumber, out_of(1, 16))]),
                           (count_connected, [16, 0], [(InvalidNumber, out_of(1, 16)), (InvalidNumber, no_number)])])
