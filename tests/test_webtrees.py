"""Tests of parkedrows.webtrees: [21], [22], [64]."""

import itertools
import math
import unittest

from parkedrows.burning import row_of_load
from parkedrows.errors import InvalidLoad, InvalidTree, InvalidWeb
from parkedrows.treerows import tree_by_queue
from parkedrows.webloads import full_web
from parkedrows.webtrees import group_sizes, is_web_tree, load_of_tree, tree_of_load, web_trees
from tests.helper import (NO_ERROR, NO_TUPLES, check_limits, check_new, check_wrong, few_webs, loads_again,
                          run_examples, tally, ties_of, web_loads_again, web_spill_by_spill, web_trees_walked, webs_tried)
from tests.test_webloads import CHAIN, LOOP, NO_WEB_LOADS, NO_WEBS, ONE, WHEEL, R, Y

EXAMPLES = """
    >>> R, Y = (3, ((0, 1), (0, 3), (1, 2), (2, 3))), (2, ((0, 1), (1, 2)))
    >>> [tree_of_load(R, (1, 0, 1)), tree_of_load(R, (0, 1, 1)), load_of_tree(R, (0, 1, 2)), is_web_tree(R, (0, 1, 0)), is_web_tree(R, (0, 0, 0)), web_trees(R), web_trees(Y)]
    [(0, 3, 0), (2, 3, 0), (1, 1, 0), True, False, [(0, 1, 0), (0, 1, 2), (0, 3, 0), (2, 3, 0)], [(0, 1)]]
    >>> [group_sizes(R), group_sizes(Y), group_sizes(full_web(3)), group_sizes((3, ((0, 1), (0, 2), (0, 3), (1, 2))))]
    [(4,), (), (4, 4), (3,)]
"""

# What is no tree of R, or no tree at all.
NO_WEB_TREES = NO_TUPLES + [(), (0, 0, 0), (0, 1), (0, 1, 0, 0), (2, 1, 0), (0, 1, 4), (0, 1, True), (False, 1, 0),
                            (0, None, 0), [0, 1, 0], (0, (1,), 0), (3, 1, 2), (2, 3, 1), (0, 1, 1), (0,) * 12,
                            (0, 1, 0) * 4, (0, 1, "0"), ((0, 1, 0),), (0, 1, 3)]
# What is no load that comes again on R.
NO_WEB_AGAIN = NO_WEB_LOADS + [(0, 4, 0), (0, 0, 1), (0, 0, 0), (2, 1, 1), (1, 2, 0), (30, 30, 30), (0, 1, 0)]


def tree_by_line(web, load):
    """The tuple of parents that comes of a load, corner by corner, as the corners in the line are taken."""
    line, parents, lacks = [0], {}, {at: len(ties_of(web, at)) - load[at - 1] for at in range(1, web[0] + 1)}
    for here in line:
        for corner in ties_of(web, here):
            if corner in lacks:
                lacks[corner] -= 1
                if lacks[corner] == 0 and corner not in line:
                    parents[corner] = here
                    line.append(corner)
    return tuple(parents[corner] for corner in range(1, web[0] + 1))


def orders_on(web):
    """The tally of the orders of all loads that come again, by sums settled spill by spill."""
    loads = web_loads_again(web)

    def total(one, other):
        return web_spill_by_spill(web, [many + more for many, more in zip(one, other)], max)[0]

    neutral, = [some for some in loads if total(some, some) == some]
    orders = []
    for load in loads:
        here, order = load, 1
        while here != neutral:
            here, order = total(here, load), order + 1
        orders.append(order)
    return tally(orders)


def orders_by_sizes(sizes):
    """The tally of the orders of all tuples with a rest by each size, added rest by rest."""
    tuples = itertools.product(*[range(size) for size in sizes])
    return tally(math.lcm(1, *[size // math.gcd(size, rest) for size, rest in zip(sizes, rests)]) for rests in tuples)


# Two rings of four that have the root in common.
LOOPS = (6, ((0, 1), (0, 3), (0, 4), (0, 6), (1, 2), (2, 3), (4, 5), (5, 6)))

# The root and a corner, each tied with all of three others.
HALVES = (4, ((0, 2), (0, 3), (0, 4), (1, 2), (1, 3), (1, 4)))


class TestWebTrees(unittest.TestCase):
    def test_examples(self):
        run_examples(self, EXAMPLES, "webtrees webloads")

    def test_which_are_trees_of_webs(self):
        for web in few_webs():
            trees = web_trees_walked(web)
            self.assertEqual(trees, web_trees(web))
            for value in itertools.product(range(web[0] + 1), repeat=web[0]):
                self.assertIs(value in trees, is_web_tree(web, value), (web, value))
        for value in NO_WEB_TREES:
            self.assertIs(False, is_web_tree(R, value), value)

    def test_trees_of_loads_and_back(self):
        for web in few_webs() + [LOOP]:
            loads = web_loads_again(web)
            trees = [tree_of_load(web, load) for load in loads]
            self.assertEqual([tree_by_line(web, load) for load in loads], trees)
            self.assertEqual(loads, [load_of_tree(web, tree) for tree in trees])
            if web[0] < 5:
                self.assertEqual(web_trees_walked(web), sorted(trees))

    def test_full_webs_go_by_the_queue(self):
        for corners in (1, 2, 3, 4):
            for load in loads_again(corners):
                self.assertEqual(tree_by_queue(row_of_load(load)), tree_of_load(full_web(corners), load))

    def test_sizes_by_orders(self):
        for web in few_webs() + webs_tried(4)[7::60]:
            sizes = group_sizes(web)
            self.assertIsInstance(sizes, tuple)
            self.assertTrue(all(size > 1 for size in sizes))
            self.assertTrue(all(later % former == 0 for former, later in zip(sizes, sizes[1:])))
            self.assertEqual(orders_on(web), orders_by_sizes(sizes), web)

    def test_sizes_of_greater_webs(self):
        self.assertEqual([(), (), (7,), (6,) * 4, (7,) * 5, (4, 4), (2, 6)],
                         [group_sizes(web) for web in (ONE, CHAIN, LOOP, full_web(5), full_web(6), LOOPS, HALVES)])
        self.assertEqual(orders_on(HALVES), orders_by_sizes((2, 6)))
        self.assertEqual(math.prod(group_sizes(WHEEL)), len(web_loads_again(WHEEL)))

    def test_six_corners(self):
        self.assertEqual([(0, 0, 0, 0, 0, 0), (0, 1, 2, 3, 4, 5)],
                         [tree_of_load(full_web(6), (6 - 1,) * 6), tree_of_load(CHAIN, (1, 1, 1, 1, 1, 0))])
        for web in (full_web(6), WHEEL):
            for load in web_loads_again(web)[::101]:
                tree = tree_of_load(web, load)
                self.assertEqual([tree_by_line(web, load), load], [tree, load_of_tree(web, tree)])
                self.assertIs(True, is_web_tree(web, tree))

    def test_five_corners_and_limits(self):
        self.assertEqual(web_trees_walked(full_web(5)), web_trees(full_web(5)))
        check_limits(self, [(web_trees, [full_web(5)], [full_web(6)], 5), (web_trees, [Y], [CHAIN], 5)])

    def test_one_corner(self):
        self.assertEqual([(0,), (0,), [(0,)], True, False],
                         [tree_of_load(ONE, (0,)), load_of_tree(ONE, (0,)), web_trees(ONE), is_web_tree(ONE, (0,)),
                          is_web_tree(ONE, (0, 0))])

    def test_wrong_arguments(self):
        check_wrong(self, [(tree_of_load, [R, (1, 0, 1)], [(InvalidWeb, NO_WEBS), (InvalidLoad, NO_WEB_AGAIN)]),
                           (load_of_tree, [R, (0, 1, 2)], [(InvalidWeb, NO_WEBS), (InvalidTree, NO_WEB_TREES)]),
                           (web_trees, [R], [(InvalidWeb, NO_WEBS)]), (group_sizes, [R], [(InvalidWeb, NO_WEBS)]),
                           (is_web_tree, [R, (0, 1, 2)], [(InvalidWeb, NO_WEBS), NO_ERROR])])

    def test_new_lists(self):
        check_new(self, [(web_trees, [R])])
