"""Tests of parkedrows.webloads: [20], [63]."""

import itertools
import unittest

from parkedrows.burning import comes_again
from parkedrows.errors import InvalidLoad, InvalidNumber, InvalidWeb
from parkedrows.loads import settled, spills_of
from parkedrows.webloads import (count_web_loads, full_web, is_web, web_comes_again, web_loads, web_settled,
                                 web_spills)
from tests.helper import (HUGE, NO_TUPLES, check_limits, check_new, check_wrong, few_webs, loads_again, nested, out_of,
                          raised, run_examples, web_loads_again, web_loads_settled, web_spill_by_spill, webs_tried)

EXAMPLES = """
    >>> R, Y = (3, ((0, 1), (0, 3), (1, 2), (2, 3))), (2, ((0, 1), (1, 2)))
    >>> [is_web(R), is_web((2, ((0, 1),))), full_web(2), web_settled(R, (0, 4, 0)), web_spills(R, (0, 4, 0)), web_comes_again(R, (1, 0, 1)), web_comes_again(R, (0, 0, 1))]
    [True, False, (2, ((0, 1), (0, 2), (1, 2))), (1, 0, 1), (1, 3, 1), True, False]
    >>> [web_loads(R), web_loads(Y), count_web_loads(R), count_web_loads(Y), count_web_loads(full_web(6))]
    [[(0, 1, 1), (1, 0, 1), (1, 1, 0), (1, 1, 1)], [(1, 0)], 4, 1, 16807]
"""

R, Y = (3, ((0, 1), (0, 3), (1, 2), (2, 3))), (2, ((0, 1), (1, 2)))
ONE = (1, ((0, 1),))
CHAIN = (6, ((0, 1), (1, 2), (2, 3), (3, 4), (4, 5), (5, 6)))
LOOP = (6, ((0, 1), (0, 6), (1, 2), (2, 3), (3, 4), (4, 5), (5, 6)))
WHEEL = (6, ((0, 1), (0, 2), (0, 6), (1, 2), (2, 3), (2, 5), (3, 4), (4, 5), (5, 6)))

NO_WEBS = NO_TUPLES + [
    (), (1,), (0, ()), (1, ()), (3, ()), (2, ((0, 1),)), (0, ((0, 1),)), (-1, ((0, 1),)), (HUGE, ((0, 1),)),
    (7, tuple((at, at + 1) for at in range(7))), (7, tuple(itertools.combinations(range(8), 2))),
    (True, ((0, 1),)), (None, ((0, 1),)), ("1", ((0, 1),)), (1, ((0, 1),), 1), (1, None), (1, HUGE), (1, "01"),
    [1, ((0, 1),)], (1, [(0, 1)]), (1, ([0, 1],)), [1, [[0, 1]]], (((0, 1),), 1),
    (1, ((0, True),)), (1, ((False, 1),)), (1, ((0, "1"),)), (1, ((0, None),)), (1, ((0, (1,)),)),
    (1, ((0,),)), (1, ((0, 1, 1),)), (1, ((),)), (1, (0, 1)), (1, ((0, 2),)), (1, ((-1, 1),)), (1, ((0, HUGE),)),
    (1, ((1, 0),)), (1, ((0, 0),)), (1, ((1, 1),)), (2, ((1, 0), (1, 2))), (2, ((0, 1), (1, 1))),
    (1, ((0, 1), (0, 1))), (2, ((0, 1), (0, 1))), (2, ((0, 1), (0, 1), (1, 2))), (2, ((1, 2), (0, 1))),
    (2, ((0, 2), (0, 1))), (3, ((0, 1), (0, 3), (2, 3), (1, 2))), (3, ((1, 2), (1, 3), (2, 3))),
    (3, ((0, 1), (0, 2), (1, 2))), (4, ((0, 1), (0, 2), (1, 2), (3, 4))), (1, ((0, 1),) * 500), (1, nested(tuple, 0)),
    nested(tuple, (1, ((0, 1),))), (2, ((0, 1), (1, 3)))]

# Right for webs of three corners are (0, 4, 0) and such.
NO_WEB_LOADS = NO_TUPLES + [(), (0, 4), (0, 4, 0, 0), (31, 0, 0), (0, 31, 0), (0, 0, 31), (0, -1, 0), (0, 4, True),
                            (0, None, 0), (0, (4,), 0), [0, 4, 0], (0, 4, "0"), (0, HUGE, 0), (30,) * 12, ((0, 4, 0),)]


def some_web_loads(web):
    """Few loads of a web: settled ones, and others."""
    return list(itertools.product(range(4), repeat=web[0]))[::3] + [(7,) * web[0], tuple(range(9, 9 + web[0]))]


class TestWebLoads(unittest.TestCase):
    def test_examples(self):
        run_examples(self, EXAMPLES, "webloads")

    def test_which_are_webs(self):
        for corners in (1, 2, 3):
            webs = webs_tried(corners)
            ties = list(itertools.combinations(range(corners + 1), 2))
            for many in range(len(ties) + 1):
                for lot in itertools.combinations(ties, many):
                    self.assertIs((corners, lot) in webs, is_web((corners, lot)))
        self.assertEqual([1, 4, 38, 728], [len(webs_tried(corners)) for corners in (1, 2, 3, 4)])
        for web in webs_tried(4) + [CHAIN, full_web(6), (6, tuple((0, corner) for corner in range(1, 7)))]:
            self.assertIs(True, is_web(web))
        for value in NO_WEBS:
            self.assertIs(False, is_web(value), value)

    def test_full_webs(self):
        for corners in range(1, 7):
            self.assertEqual((corners, tuple(itertools.combinations(range(corners + 1), 2))), full_web(corners))

    def test_settled_spill_by_spill(self):
        for web in few_webs():
            for load in some_web_loads(web):
                for choose in (min, max, lambda high: high[len(high) // 2]):
                    left, spills = web_spill_by_spill(web, load, choose)
                    self.assertEqual(left, web_settled(web, load), (web, load))
                    self.assertEqual(spills, web_spills(web, load), (web, load))

    def test_which_come_again(self):
        for web in few_webs():
            again = web_loads_again(web)
            for load in web_loads_settled(web):
                self.assertIs(load in again, web_comes_again(web, load), (web, load))
            for load in some_web_loads(web):
                self.assertIs(load in again, web_comes_again(web, load), (web, load))
            self.assertEqual(again, web_loads(web), web)
            self.assertEqual(len(again), count_web_loads(web), web)

    def test_full_webs_are_as_loads(self):
        for corners in (1, 2, 3, 4):
            web = full_web(corners)
            for load in list(itertools.product(range(0, 31, 5), repeat=corners))[::corners ** 3]:
                self.assertEqual([settled(load), spills_of(load)], [web_settled(web, load), web_spills(web, load)])
                self.assertIs(comes_again(load), web_comes_again(web, load))
            self.assertEqual(loads_again(corners), web_loads(web))

    def test_one_corner(self):
        self.assertEqual([(0,), (30,), (0,), (0,), True, False],
                         [web_settled(ONE, (30,)), web_spills(ONE, (30,)), web_settled(ONE, (0,)),
                          web_spills(ONE, (0,)), web_comes_again(ONE, (0,)), web_comes_again(ONE, (1,))])
        self.assertEqual([[(0,)], 1], [web_loads(ONE), count_web_loads(ONE)])

    def test_five_and_six_corners(self):
        self.assertEqual(web_loads_again(full_web(5)), web_loads(full_web(5)))
        self.assertEqual([1296, 16807, 1, 7], [count_web_loads(web) for web in (full_web(5), full_web(6), CHAIN, LOOP)])
        for web in (CHAIN, full_web(6), WHEEL):
            for load in ((30,) * 6, (0, 0, 30, 0, 0, 30), (5, 4, 3, 2, 1, 0), (0, 1, 2, 3, 4, 5)):
                self.assertEqual(web_spill_by_spill(web, load, max), (web_settled(web, load), web_spills(web, load)))
            again = web_loads_again(web)
            for load in web_loads_settled(web)[::37]:
                self.assertIs(load in again, web_comes_again(web, load))
            self.assertEqual(len(again), count_web_loads(web))

    def test_thirty_grains(self):
        # 30 - 2 * 44 + 59 is 1, and 30 - 2 * 59 + 44 + 44 is 0.
        self.assertEqual([(1, 0, 1), (44, 59, 44)], [web_settled(R, (30, 30, 30)), web_spills(R, (30, 30, 30))])

    def test_limits(self):
        check_limits(self, [(web_loads, [full_web(5)], [full_web(6)], 5), (web_loads, [Y], [CHAIN], 5)])

    def test_wrong_arguments(self):
        functions = (web_settled, web_spills, web_comes_again)
        check_wrong(self, [(function, [R, (0, 4, 0)], [(InvalidWeb, NO_WEBS), (InvalidLoad, NO_WEB_LOADS)])
                           for function in functions])
        check_wrong(self, [(function, [R], [(InvalidWeb, NO_WEBS)]) for function in (web_loads, count_web_loads)])
        check_wrong(self, [(full_web, [3], [(InvalidNumber, out_of(1, 6))])])
        for web, load in ((ONE, (31,)), (ONE, (0, 0)), (Y, (0,)), (full_web(6), (30,) * 5), (CHAIN, (31,) + (0,) * 5)):
            for function in functions:
                self.assertIs(InvalidLoad, raised(function, [web, load]).__class__)

    def test_new_lists(self):
        check_new(self, [(web_loads, [R])])
