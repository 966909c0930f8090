"""Meshes: ties between the root and some corners, by which all of them hang together."""

from parkedrows.checks import check_most, check_number, has_size, is_ascending, pairs_among
from parkedrows.errors import InvalidMesh, InvalidTie
from parkedrows.trees import check_tree
from parkedrows.webloads import all_ties, does_hang_together, is_tie

MOST_CORNERS = 12
MOST_LISTED = 4


def corners_in(ties):
    """How many corners the ties of a mesh tie."""
    return max([int(high) for _, high in ties])


def is_mesh(value):
    """Whether any value is a mesh of 1 to 12 corners."""
    if not has_size(value, 1, pairs_among(MOST_CORNERS + 1)):
        return False
    if not all([is_tie(tie, MOST_CORNERS) for tie in value]) or not is_ascending(value):
        return False
    return does_hang_together((corners_in(value), value))


def check_mesh(mesh):
    """Let a mesh pass."""
    if not is_mesh(mesh):
        raise InvalidMesh("the mesh must be a mesh of 1 to 12 corners")


def check_mesh_and_tie(mesh, tie):
    """Let a mesh pass, and a tie of two of its corners, or of the root and one."""
    check_mesh(mesh)
    if not is_tie(tie, corners_in(mesh)):
        raise InvalidTie("the tie must be a pair of two that are in the mesh, the lesser one first")


def parents_tied(tree):
    """The tuple of the ties between all corners of a tree and their parents, in ascending order."""
    return tuple([(one, other) for one, other in all_ties(len(tree))
                  if tree[other - 1] == one or (one > 0 and tree[one - 1] == other)])


def ties_with(ties, tie):
    """The tuple of some ties and of one more, in ascending order."""
    return tuple([other for other in ties if other < tie] + [tie] + [other for other in ties if other > tie])


def ties_without(ties, tie):
    """The tuple of some ties, but for one of them."""
    return tuple([other for other in ties if other != tie])


def is_bridge(mesh, tie):
    """Whether some corner hangs together with the root by a tie of the mesh only."""
    return not does_hang_together((corners_in(mesh), ties_without(mesh, tie)))


def lots_of_ties(ties, needed):
    """The ascending list of the ascending tuples of some of the ties, all that are needed among them."""
    lots = [()]
    for tie in ties[::-1]:
        longer = [(tie,) + lot for lot in lots]
        if tie in needed:
            lots = longer
        else:
            # Only the tuple without items is less than those that begin with a lesser tie.
            lots = [lot for lot in lots if len(lot) == 0] + longer + [lot for lot in lots if len(lot) > 0]
    return lots


def tree_mesh(tree):
    """The mesh of a tree."""
    check_tree(tree)
    return parents_tied(tree)


def full_mesh(corners):
    """The mesh of 1 to 12 corners with all ties."""
    check_number(corners, 1, MOST_CORNERS)
    return tuple(all_ties(corners))


def mesh_excess(mesh):
    """How many ties more than corners a mesh has."""
    check_mesh(mesh)
    return len(mesh) - corners_in(mesh)


def mesh_bridges(mesh):
    """The ascending list of all bridges of a mesh."""
    check_mesh(mesh)
    return [tie for tie in mesh if is_bridge(mesh, tie)]


def mesh_with(mesh, tie):
    """The mesh with one tie more."""
    check_mesh_and_tie(mesh, tie)
    if tie in mesh:
        raise InvalidTie("the mesh has this tie")
    return ties_with(mesh, tie)


def mesh_without(mesh, tie):
    """The mesh without one of its ties, which is no bridge."""
    check_mesh_and_tie(mesh, tie)
    if tie not in mesh or is_bridge(mesh, tie):
        raise InvalidTie("the tie must be one of the mesh, and no bridge of it")
    return ties_without(mesh, tie)


def meshes_of(corners):
    """The ascending list of all meshes of so many corners."""
    lots = lots_of_ties(all_ties(corners), ())
    return [ties for ties in lots if does_hang_together((corners, ties))]


def all_meshes(corners):
    """The ascending list of all meshes of at most 4 corners."""
    check_number(corners, 1, MOST_CORNERS)
    check_most(corners, MOST_LISTED)
    return meshes_of(corners)
