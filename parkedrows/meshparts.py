"""Meshes put together of trees and outer ties, taken apart again, and numbered by searches."""

from parkedrows.checks import check_from_zero, check_most, check_number, has_size, is_ascending
from parkedrows.errors import InvalidNumber, InvalidTies
from parkedrows.meshes import MOST_CORNERS, MOST_LISTED, check_mesh, lots_of_ties, parents_tied, ties_with
from parkedrows.searches import SEARCHES, check_search, outer_of, tree_in
from parkedrows.treerows import row_by_queue, row_by_stack, tree_by_queue, tree_by_stack
from parkedrows.trees import check_tree
from parkedrows.webloads import full_web, is_tie
from parkedrows.webtrees import web_trees

MOST_OUTER = 8
LINES = ("queue", "stack")


def put_together(tree, ties):
    """The mesh of a tree and of some ties that the mesh of the tree does not have."""
    mesh = parents_tied(tree)
    for tie in ties:
        mesh = ties_with(mesh, tie)
    return mesh


def others_than(mesh, tree):
    """The tuple of the ties of a mesh that the mesh of a tree does not have."""
    own = parents_tied(tree)
    return tuple([tie for tie in mesh if tie not in own])


def mesh_of(tree, search, ties):
    """The mesh of a tree and of some of its outer ties by a search."""
    check_tree(tree)
    check_search(search, SEARCHES)
    outer = outer_of(tree, search)
    if not has_size(ties, 0, len(outer)) or not all([is_tie(tie, len(tree)) and tie in outer for tie in ties]):
        raise InvalidTies("the ties must be a tuple of outer ties of the tree")
    if not is_ascending(ties):
        raise InvalidTies("the ties must be in ascending order")
    return put_together(tree, ties)


def parts_of(mesh, search):
    """The pair of the tree that a search finds, and of the ascending tuple of all other ties."""
    check_mesh(mesh)
    check_search(search, SEARCHES)
    tree = tree_in(mesh, search)
    return (tree, others_than(mesh, tree))


def meshes_by(tree, search):
    """The ascending list of all meshes in which a search finds a tree that has at most 8 outer ties."""
    check_tree(tree)
    check_search(search, SEARCHES)
    outer = outer_of(tree, search)
    check_most(len(outer), MOST_OUTER)
    return lots_of_ties(put_together(tree, outer), parents_tied(tree))


def tree_led(tree, one, other):
    """The tree by the other one of the row whose tree, by the one of the queue and the stack, this is."""
    row = row_by_queue(tree) if one == "queue" else row_by_stack(tree)
    return tree_by_queue(row) if other == "queue" else tree_by_stack(row)


def carried(mesh, one, other):
    """The mesh of the row's other tree, and of those of its outer ties that stand where those of the mesh do."""
    check_mesh(mesh)
    check_search(one, LINES)
    check_search(other, LINES)
    tree = tree_in(mesh, one)
    own = others_than(mesh, tree)
    led = tree_led(tree, one, other)
    return put_together(led, [tie for former, tie in zip(outer_of(tree, one), outer_of(led, other)) if former in own])


def trees_with(corners):
    """The ascending list of all trees of at most 4 corners."""
    return web_trees(full_web(corners))


def mesh_number(mesh, search):
    """The number of a mesh of at most 4 corners, ordered by the trees found, and then by the outer ties."""
    tree, ties = parts_of(mesh, search)
    check_most(len(tree), MOST_LISTED)
    number = 0
    for lesser in trees_with(len(tree)):
        if lesser < tree:
            number = number + (1 << len(outer_of(lesser, search)))
    outer = outer_of(tree, search)
    return number + sum([1 << outer.index(tie) for tie in ties])


def mesh_with_number(corners, search, number):
    """The mesh of at most 4 corners that has this number by a search."""
    check_number(corners, 1, MOST_CORNERS)
    check_search(search, SEARCHES)
    check_from_zero(number)
    check_most(corners, MOST_LISTED)
    ahead = number
    for tree in trees_with(corners):
        outer = outer_of(tree, search)
        if ahead < 1 << len(outer):
            return put_together(tree, [outer[at] for at in range(len(outer)) if (ahead >> at) & 1 == 1])
        ahead = ahead - (1 << len(outer))
    raise InvalidNumber("there are not more than so many meshes")


def outer_spread(corners, search):
    """The tuple of how many trees of at most 4 corners have 0, 1 and so on outer ties by a search."""
    check_number(corners, 1, MOST_CORNERS)
    check_search(search, SEARCHES)
    check_most(corners, MOST_LISTED)
    many = [len(outer_of(tree, search)) for tree in trees_with(corners)]
    return tuple([many.count(ties) for ties in range(max([int(ties) for ties in many]) + 1)])
