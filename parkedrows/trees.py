"""Numbered trees, told by the parents of all corners."""

from parkedrows.checks import MOST_CARS, all_within, check_corner, has_size
from parkedrows.errors import InvalidCode, InvalidCorner, InvalidTree


def is_tree(value):
    """Whether any value is a tree of 1 to 12 corners."""
    if not has_size(value, 1, MOST_CARS) or not all_within(value, 0, len(value)):
        return False
    return all([leads_to_root(value, corner) for corner in range(1, len(value) + 1)])


def leads_to_root(parents, corner):
    """Whether the parents lead from a corner to the root, and not round and round."""
    here = corner
    for _ in parents:
        if here > 0:
            here = parents[here - 1]
    return here == 0


def check_tree(tree):
    """Let a tree pass."""
    if not is_tree(tree):
        raise InvalidTree("the tree must be a tree of 1 to 12 corners")


def children_in(tree, corner):
    """The ascending list of the children of a corner, or of the root, in a tree."""
    return [child for child in range(1, len(tree) + 1) if tree[child - 1] == corner]


def way_up(tree, corner):
    """The list of what is above a corner, the parent first."""
    way = []
    here = tree[corner - 1]
    while here > 0:
        way.append(here)
        here = tree[here - 1]
    return way


def children_of(tree, corner):
    """The ascending list of the children of a corner, or of the root."""
    check_tree(tree)
    check_corner(corner, 0, len(tree))
    return children_in(tree, corner)


def above_of(tree, corner):
    """The ascending list of all corners above a corner."""
    check_tree(tree)
    check_corner(corner, 1, len(tree))
    return sorted([int(above) for above in way_up(tree, corner)])


def tree_leaves(tree):
    """The ascending list of all corners without a child."""
    check_tree(tree)
    return [corner for corner in range(1, len(tree) + 1) if corner not in tree]


def tree_overtakings(tree):
    """The ascending list of the pairs of a corner and of a lesser one below it."""
    check_tree(tree)
    ways = [way_up(tree, corner) for corner in range(1, len(tree) + 1)]
    return [(one, other) for one in range(1, len(tree) + 1) for other in range(1, one) if one in ways[other - 1]]


def code_of(tree):
    """The tuple of the parents of all corners but the last, as the least leaves are taken away."""
    check_tree(tree)
    left = list(range(1, len(tree) + 1))
    code = []
    for _ in range(len(tree) - 1):
        parents = [tree[corner - 1] for corner in left]
        leaf = [corner for corner in left if corner not in parents][0]
        code.append(tree[leaf - 1])
        left = [corner for corner in left if corner != leaf]
    return tuple(code)


def tree_of_code(code):
    """The tree that has this code."""
    if not has_size(code, 0, MOST_CARS - 1) or not all_within(code, 0, len(code) + 1):
        raise InvalidCode("the code must be that of a tree of 1 to 12 corners")
    left = list(range(1, len(code) + 2))
    # The corner that is left in the end hangs from the root.
    parents = [0 for _ in left]
    for index in range(len(code)):
        leaf = [corner for corner in left if corner not in code[index:]][0]
        parents[leaf - 1] = code[index]
        left = [corner for corner in left if corner != leaf]
    return tuple(parents)


def swung(tree, corner, other):
    """The tree in which the other corner, or the root, is the parent of a corner."""
    check_tree(tree)
    check_corner(corner, 1, len(tree))
    check_corner(other, 0, len(tree))
    if other == corner or (other > 0 and corner in way_up(tree, other)):
        raise InvalidCorner("a corner can't hang from itself or from what is below it")
    return tree[:corner - 1] + (other,) + tree[corner:]
