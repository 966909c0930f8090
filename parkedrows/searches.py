"""The four searches, the trees that they find in meshes, and the outer ties of these."""

from parkedrows.errors import InvalidSearch
from parkedrows.meshes import (check_mesh, check_mesh_and_tie, corners_in, is_bridge, parents_tied, ties_with,
                               ties_without)
from parkedrows.trees import check_tree
from parkedrows.webloads import all_ties, does_hang_together, neighbours

SEARCHES = ("queue", "stack", "deep", "rings")
LINE_SEARCHES = ("queue", "stack", "deep")


def check_search(search, words):
    """Let one of these words pass."""
    if search not in words:
        raise InvalidSearch("the search must be told by one of its words")


def walked(web, word):
    """The pair of the line and of the parents that the queue, or the stack, finds."""
    corners, _ = web
    parents = [0 for _ in range(corners)]
    line = [0]
    for place in range(corners):
        joining = [corner for corner in neighbours(web, line[place]) if corner not in line]
        for corner in joining:
            parents[corner - 1] = line[place]
        ahead = place + 1 if word == "stack" else len(line)
        line = line[:ahead] + joining + line[ahead:]
    return (tuple(line), tuple(parents))


def walked_deep(web):
    """The pair of the line in which the walker comes to the root and all corners, and of the parents."""
    corners, _ = web
    parents = [0 for _ in range(corners)]
    line = [0]
    here = 0
    while len(line) <= corners:
        ahead = [corner for corner in neighbours(web, here) if corner not in line]
        if len(ahead) > 0:
            parents[ahead[-1] - 1] = here
            line.append(ahead[-1])
            here = ahead[-1]
        else:
            here = parents[here - 1]
    return (tuple(line), tuple(parents))


def left_by_rings(web):
    """The web of the ties that are left when the least one that is no bridge is taken away, again and again."""
    corners, ties = web
    left = ties
    for tie in ties:
        # What is a bridge stays one when others are taken away, so each tie is asked but once.
        rest = ties_without(left, tie)
        if does_hang_together((corners, rest)):
            left = rest
    return (corners, left)


def searched(mesh, search):
    """The pair of the line and of the tree that a search finds; by the rings, the line of this by the queue."""
    web = (corners_in(mesh), mesh)
    if search == "deep":
        return walked_deep(web)
    if search == "rings":
        return walked(left_by_rings(web), "queue")
    return walked(web, search)


def tree_in(mesh, search):
    """The tree that a search finds in a mesh."""
    _, tree = searched(mesh, search)
    return tree


def tree_found(mesh, search):
    """The tree that one of the four searches finds in a mesh."""
    check_mesh(mesh)
    check_search(search, SEARCHES)
    return tree_in(mesh, search)


def line_found(mesh, search):
    """The tuple of the root and all corners in the order of the line, or in which the walker comes to them."""
    check_mesh(mesh)
    check_search(search, LINE_SEARCHES)
    line, _ = searched(mesh, search)
    return line


def outer_of(tree, search):
    """The ascending list of all outer ties of a tree."""
    mesh = parents_tied(tree)
    others = [tie for tie in all_ties(len(tree)) if tie not in mesh]
    return [tie for tie in others if tree_in(ties_with(mesh, tie), search) == tree]


def outer_ties(tree, search):
    """The ascending list of all outer ties of a tree by a search."""
    check_tree(tree)
    check_search(search, SEARCHES)
    return outer_of(tree, search)


def does_keep(mesh, tie, search):
    """Whether the search finds the same tree if the tie is put in, or taken out; False for a bridge."""
    check_mesh_and_tie(mesh, tie)
    check_search(search, SEARCHES)
    if tie not in mesh:
        return tree_in(ties_with(mesh, tie), search) == tree_in(mesh, search)
    if is_bridge(mesh, tie):
        return False
    return tree_in(ties_without(mesh, tie), search) == tree_in(mesh, search)
