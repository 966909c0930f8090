"""Tests of parkedrows.meshes: [39], [82]."""

import itertools
import random
import unittest

from parkedrows.errors import InvalidMesh, InvalidNumber, InvalidTie, InvalidTree
from parkedrows.meshes import (all_meshes, full_mesh, is_mesh, mesh_bridges, mesh_excess, mesh_with, mesh_without,
                               tree_mesh)
from tests.helper import (HUGE, NO_TUPLES, T, check_limits, check_new, check_wrong, few_meshes, few_trees,
                          hang_together, meshes_tried, nested, out_of, run_examples, tree_ties)
from tests.test_trees import NO_TREES

EXAMPLES = """
    >>> M, N = ((0, 1), (0, 2), (1, 2)), ((0, 2), (0, 3), (1, 3), (1, 4), (2, 4))
    >>> [is_mesh(M), is_mesh(((0, 1), (1, 2))), is_mesh(((1, 2),)), is_mesh(((0, 2), (0, 1))), is_mesh(((0, 1), (2, 3))), is_mesh(()), tree_mesh(T), full_mesh(2) == M, [mesh_excess(some) for some in (M, N, tree_mesh(T))]]
    [True, True, False, False, False, False, ((0, 2), (0, 3), (1, 2)), True, [1, 1, 0]]
    >>> [mesh_bridges(M), mesh_bridges(N), mesh_bridges(tree_mesh(T)), mesh_with(((0, 1), (1, 2)), (0, 2)) == M, mesh_without(M, (0, 1)), len(all_meshes(3)), all_meshes(2)[0]]
    [[], [], [(0, 2), (0, 3), (1, 2)], True, ((0, 2), (1, 2)), 38, ((0, 1), (0, 2))]
"""

M, N = ((0, 1), (0, 2), (1, 2)), ((0, 2), (0, 3), (1, 3), (1, 4), (2, 4))
ALL = tuple(itertools.combinations(range(13), 2))
ONE = ((0, 1),)
# A ring of four corners with the root, one more corner hanging from it.
TAIL = ((0, 1), (0, 4), (1, 2), (2, 3), (3, 4), (3, 5))

NO_MESHES = NO_TUPLES + [(), ((1, 2),), ((0, 2),), ((0, 2), (0, 1)), ((0, 1), (0, 1)), ((0, 1), (2, 3)),
                         ((0, 1), (1, 0)), ((1, 0),), ((0, 0),), ((0, 0), (0, 1)), ((0, 1), (1, 1)), ((0, 1), (0, 3)),
                         [(0, 1)], ([0, 1],), ((0, 1), [1, 2]), ((0, True),), ((False, 1),), ((0, 1), (True, 2)),
                         ((0, 1, 2),), ((0,),), ((0, 1), ()), ((0, 1), None), ((0, 1), "12"), ((0, "1"),),
                         ((0, None),), ((-1, 0), (0, 1)), ((-1, 1), (0, 1)), ((0, 1), (1, HUGE)), ((0, HUGE),),
                         ALL + ((12, 13),), ((0, 1), (1, 13)), tuple((at, at + 1) for at in range(13)),
                         ALL[1:] + ALL[:1], ALL[:5] + ALL[4:], (nested(tuple, 0),), ((0, (1,)),), (ONE,),
                         ((0, 1), (2, 3), (2, 4), (3, 4)), ((0, 1), (0, 2), (4, 5)), tuple([(0, 1)] * 500)]
# What is no tie of three corners.
NO_TIES = NO_TUPLES + [(), (1, 0), (0, 0), (2, 2), (0, 4), (1, HUGE), (-1, 0), (-1, 1), (0, True), (False, 2), [0, 1],
                       (0, 1, 2), (0, None), (0, "1"), ((0, 1),), ((0, 1), (0, 2)), (0, (1,)), "01", (3, 1), (1, 4)]


def bridges_tried(mesh):
    """The ascending list of the ties without which not all corners hang together."""
    corners = max(high for _, high in mesh)
    return [tie for tie in mesh if not hang_together(corners, [other for other in mesh if other != tie])]


def drawn_meshes(many, most):
    """So many meshes of five to so many corners, drawn: a tree, and some ties more."""
    draw, found = random.Random(82), []
    for _ in range(many):
        corners = draw.randint(5, most)
        ties = {tuple(sorted((corner, draw.randrange(corner)))) for corner in range(1, corners + 1)}
        more = list(itertools.combinations(range(corners + 1), 2))
        ties.update(draw.sample(more, draw.choice((0, 1, 2, 4, len(more) // 2, len(more)))))
        numbers = [0] + draw.sample(range(1, corners + 1), corners)
        found.append(tuple(sorted(tuple(sorted((numbers[one], numbers[other]))) for one, other in ties)))
    return found


class TestMeshes(unittest.TestCase):
    def test_examples(self):
        run_examples(self, EXAMPLES, "meshes trees")

    def test_all_lots_of_ties(self):
        for corners in (1, 2, 3, 4):
            meshes = meshes_tried(corners)
            self.assertEqual(meshes, all_meshes(corners))
            self.assertEqual([True] * len(meshes), [is_mesh(mesh) for mesh in meshes])
            self.assertEqual([len(mesh) - corners for mesh in meshes], [mesh_excess(mesh) for mesh in meshes])
        ties = list(itertools.combinations(range(4), 2))
        for many in range(7):
            for lot in itertools.product(ties, repeat=min(many, 4)):
                corners = max([0] + [high for _, high in lot])
                right = bool(lot) and list(lot) == sorted(set(lot)) and hang_together(corners, lot)
                self.assertIs(right, is_mesh(lot), lot)

    def test_bridges(self):
        for mesh in few_meshes() + drawn_meshes(60, 12):
            self.assertEqual(bridges_tried(mesh), mesh_bridges(mesh))

    def test_ties_put_in_and_taken_out(self):
        for mesh in few_meshes() + drawn_meshes(20, 8):
            corners = max(high for _, high in mesh)
            bridges = bridges_tried(mesh)
            for tie in itertools.combinations(range(corners + 1), 2):
                if tie not in mesh:
                    self.assertEqual(tuple(sorted(mesh + (tie,))), mesh_with(mesh, tie))
                    self.assertRaises(InvalidTie, mesh_without, mesh, tie)
                else:
                    self.assertRaises(InvalidTie, mesh_with, mesh, tie)
                    if tie in bridges:
                        self.assertRaises(InvalidTie, mesh_without, mesh, tie)
                    else:
                        self.assertEqual(tuple(other for other in mesh if other != tie), mesh_without(mesh, tie))

    def test_trees(self):
        for tree in few_trees():
            self.assertEqual(tree_ties(tree), tree_mesh(tree))
            self.assertEqual([0, list(tree_ties(tree))], [mesh_excess(tree_mesh(tree)), mesh_bridges(tree_mesh(tree))])

    def test_full_meshes(self):
        for corners in range(1, 13):
            self.assertEqual(tuple(itertools.combinations(range(corners + 1), 2)), full_mesh(corners))

    def test_twelve_corners(self):
        self.assertEqual([ALL, True, 66, []], [full_mesh(12), is_mesh(ALL), mesh_excess(ALL), mesh_bridges(ALL)])
        down, up = tuple(range(12)), tuple(range(2, 13)) + (0,)
        self.assertEqual([tuple((at, at + 1) for at in range(12)),
                          ((0, 12),) + tuple((at, at + 1) for at in range(1, 12))],
                         [tree_mesh(down), tree_mesh(up)])
        self.assertEqual([ALL, ALL[1:]], [mesh_with(ALL[:40] + ALL[41:], ALL[40]), mesh_without(ALL, ALL[0])])
        self.assertEqual(list(tree_mesh(down)), mesh_bridges(tree_mesh(down)))

    def test_one_corner(self):
        self.assertEqual([ONE, ONE, 0, [(0, 1)], [ONE], True],
                         [tree_mesh((0,)), full_mesh(1), mesh_excess(ONE), mesh_bridges(ONE), all_meshes(1),
                          is_mesh(ONE)])

    def test_any_value(self):
        for value in NO_MESHES:
            self.assertIs(False, is_mesh(value), value)

    def test_limits(self):
        check_limits(self, [(all_meshes, [4], [corners], 4) for corners in range(5, 13)])

    def test_wrong_arguments(self):
        mesh, number = (InvalidMesh, NO_MESHES), (InvalidNumber, out_of(1, 12))
        check_wrong(self, [(tree_mesh, [T], [(InvalidTree, NO_TREES)]), (full_mesh, [12], [number]),
                           (all_meshes, [4], [number]), (mesh_excess, [M], [mesh]), (mesh_bridges, [N], [mesh]),
                           (mesh_with, [tree_mesh(T), (0, 1)], [mesh, (InvalidTie, NO_TIES + [(0, 2), (1, 2)])]),
                           (mesh_with, [N, (0, 1)], [mesh, (InvalidTie, [(0, 5), (4, 5), (0, 2), (2, 4)])]),
                           (mesh_without, [M, (0, 1)], [mesh, (InvalidTie, NO_TIES + [(1, 3), (2, 3)])]),
                           (mesh_without, [TAIL, (0, 1)], [mesh, (InvalidTie, [(3, 5), (0, 2), (0, 5), (5, 6)])])])

    def test_new_lists(self):
        check_new(self, [(mesh_bridges, [TAIL]), (all_meshes, [2])])
