"""Trees of webs, those of the loads that come again, and the sizes of the groups of webs."""

from math import gcd

from parkedrows.checks import check_most
from parkedrows.errors import InvalidLoad, InvalidTree
from parkedrows.trees import is_tree
from parkedrows.treerows import queue_of
from parkedrows.webloads import (MOST_LISTED, check_web, check_web_load, determinant, is_again_on_web, losses,
                                 neighbours)


def is_web_tree(web, value):
    """Whether any value is a tree of a web."""
    check_web(web)
    if not is_tree(value) or len(value) != web[0]:
        return False
    return all([value[corner - 1] in neighbours(web, corner) for corner in range(1, web[0] + 1)])


def tree_of_load(web, load):
    """The tree of a load that comes again on a web."""
    check_web_load(web, load)
    if not is_again_on_web(web, load):
        raise InvalidLoad("the load must be one that comes again")
    parents = [0 for _ in load]
    line = [0]
    for place in range(web[0]):
        waiting = [corner for corner in range(1, web[0] + 1) if corner not in line]
        for corner in waiting:
            near = neighbours(web, corner)
            taken = [other for other in line[:place + 1] if other in near]
            if len(taken) == len(near) - load[corner - 1]:
                parents[corner - 1] = line[place]
                line.append(corner)
    return tuple(parents)


def load_of_tree(web, tree):
    """The load whose tree this tree of a web is."""
    if not is_web_tree(web, tree):
        raise InvalidTree("the tree must be a tree of the web")
    # The line in which the load is led to its tree is the queue of this.
    line = queue_of(tree)
    load = []
    for corner in range(1, web[0] + 1):
        near = neighbours(web, corner)
        taken = line[:line.index(tree[corner - 1]) + 1]
        load.append(len([other for other in near if other not in taken]))
    return tuple(load)


def web_trees(web):
    """The ascending list of all trees of a web of at most 5 corners."""
    check_web(web)
    check_most(web[0], MOST_LISTED)
    trees = [()]
    for corner in range(1, web[0] + 1):
        trees = [tree + (parent,) for tree in trees for parent in neighbours(web, corner)]
    return [tree for tree in trees if is_tree(tree)]


def picks(many, size):
    """The list of all ascending tuples of so many of the integers from 0 to less than many."""
    if size == 0:
        return [()]
    shorter = picks(many, size - 1)
    return [some + (item,) for some in shorter for item in range(many) if len(some) == 0 or some[-1] < item]


def group_sizes(web):
    """The ascending tuple of the sizes of the group of a web."""
    check_web(web)
    rows = losses(web)
    sizes = []
    former = 1
    for size in range(1, web[0] + 1):
        common = 0
        for some in picks(web[0], size):
            for others in picks(web[0], size):
                common = gcd(common, determinant([[rows[at][to] for to in others] for at in some]))
        # What divides all determinants of this size is the product of the sizes up to this one.
        sizes.append(common // former)
        former = common
    return tuple([size for size in sizes if size > 1])
