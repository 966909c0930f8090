"""Tests of parkedrows.meshparts: [41], [84], [85]."""

import itertools
import unittest

from parkedrows.errors import InvalidMesh, InvalidNumber, InvalidSearch, InvalidTies, InvalidTree
from parkedrows.meshes import full_mesh, tree_mesh
from parkedrows.meshparts import carried, mesh_number, mesh_of, mesh_with_number, meshes_by, outer_spread, parts_of
from parkedrows.searches import outer_ties, tree_found
from parkedrows.treerows import row_by_queue, row_by_stack, tree_by_queue, tree_by_stack
from tests.helper import (HUGE, NO_INTEGERS, NO_TUPLES, S, T, check_limits, check_new, check_wrong, few_meshes,
                          few_trees, meshes_tried, out_of, outer_tried, run_examples, search_done, tree_ties,
                          trees_walked)
from tests.test_meshes import ALL, M, N, NO_MESHES, ONE, drawn_meshes
from tests.test_searches import NO_LINES, NO_SEARCHES, SEARCHES
from tests.test_trees import NO_TREES

EXAMPLES = """
    >>> M, N = ((0, 1), (0, 2), (1, 2)), ((0, 2), (0, 3), (1, 3), (1, 4), (2, 4))
    >>> [mesh_of(T, "queue", ((1, 3),)), parts_of(M, "queue"), parts_of(M, "deep"), meshes_by((2, 0), "deep") == [M, ((0, 2), (1, 2))], len(meshes_by(S, "stack"))]
    [((0, 2), (0, 3), (1, 2), (1, 3)), ((0, 0), ((1, 2),)), ((2, 0), ((0, 1),)), True, 8]
    >>> [carried(mesh_of(S, "stack", ((1, 3),)), "stack", "queue") == N, carried(N, "queue", "stack"), carried(M, "queue", "stack") == M, carried(N, "stack", "stack") == N]
    [True, ((0, 2), (0, 3), (1, 3), (1, 4), (2, 4)), True, True]
    >>> [mesh_number(M, "deep"), mesh_number(M, "queue"), mesh_with_number(2, "deep", 0), mesh_with_number(2, "queue", 3), [outer_spread(3, search) for search in ("queue", "deep", "rings")], outer_spread(1, "stack"), outer_spread(4, "stack")]
    [3, 1, ((0, 1), (0, 2)), ((0, 2), (1, 2)), [(6, 6, 3, 1), (6, 6, 3, 1), (6, 6, 3, 1)], (1,), (24, 36, 30, 20, 10, 4, 1)]
"""

# S has by the stack the outer ties (1, 3), (2, 3), (3, 4), by the queue (2, 3), (3, 4).
NO_OUTER = NO_TUPLES + [((1, 3),), ((0, 1),), ((3, 4), (2, 3)), ((2, 3), (2, 3)), ((0, 2),), ((2, 4),), [(2, 3)],
                        ([2, 3],), ((3, 2),), ((2, 3), (3, 4), (3, 4)), ((2, 3), (3, 5)), ((2, 3), None), (2, 3),
                        ((2, 3), (1, 3)), ((2, 3, 4),), ((2, 3), (3, 4), (0, 1)), ((2, True),), ((True, 3),),
                        ((2, "3"),), ((2, 3), "34"), ((2, HUGE),), tuple([(2, 3)] * 500), (((2, 3),),)]
NO_COUNT = NO_INTEGERS + [-1, -1000, -HUGE]


def lots(items):
    """The list of all ascending tuples of some items."""
    return [lot for many in range(len(items) + 1) for lot in itertools.combinations(items, many)]


def in_order(corners, search):
    """The list of all meshes by the trees found, and then by the sums of powers of 2 for the outer ties."""
    keys = []
    for mesh in meshes_tried(corners):
        tree = search_done(mesh, search)
        outer = outer_tried(tree, search)
        keys.append((tree, sum(2 ** outer.index(tie) for tie in mesh if tie not in tree_ties(tree)), mesh))
    return [mesh for _, _, mesh in sorted(keys)]


class TestMeshParts(unittest.TestCase):
    def test_examples(self):
        run_examples(self, EXAMPLES, "meshparts meshes searches")

    def test_put_together_and_taken_apart(self):
        for tree, search in itertools.product(few_trees()[::3] + [(5, 0, 2, 0, 4)], SEARCHES):
            found = []
            for lot in lots(outer_tried(tree, search)):
                mesh = tuple(sorted(tree_ties(tree) + lot))
                self.assertEqual(mesh, mesh_of(tree, search, lot))
                self.assertEqual((tree, lot), parts_of(mesh, search))
                found.append(mesh)
            self.assertEqual(sorted(found), meshes_by(tree, search))

    def test_all_meshes_of_a_tree(self):
        for corners, search in itertools.product((1, 2, 3, 4), SEARCHES):
            found = {}
            for mesh in meshes_tried(corners):
                found.setdefault(search_done(mesh, search), []).append(mesh)
            for tree in trees_walked(corners):
                self.assertEqual(found[tree], meshes_by(tree, search))

    def test_parts(self):
        for mesh, search in itertools.product(few_meshes() + drawn_meshes(20, 12), SEARCHES):
            tree = search_done(mesh, search)
            self.assertEqual((tree, tuple(tie for tie in mesh if tie not in tree_ties(tree))), parts_of(mesh, search))

    def test_carried(self):
        leads = {"queue": (row_by_queue, tree_by_queue), "stack": (row_by_stack, tree_by_stack)}
        for mesh in few_meshes()[::2] + drawn_meshes(12, 9):
            for one, other in itertools.product(leads, repeat=2):
                tree = search_done(mesh, one)
                own = [tie for tie in mesh if tie not in tree_ties(tree)]
                led = leads[other][1](leads[one][0](tree))
                indices = [outer_tried(tree, one).index(tie) for tie in own]
                more = tuple(outer_tried(led, other)[index] for index in indices)
                self.assertEqual(tuple(sorted(tree_ties(led) + more)), carried(mesh, one, other))
                self.assertEqual(mesh, carried(carried(mesh, one, other), other, one))

    def test_numbers(self):
        for corners, search in itertools.product((1, 2, 3), SEARCHES):
            meshes = in_order(corners, search)
            self.assertEqual(list(range(len(meshes))), [mesh_number(mesh, search) for mesh in meshes])
            self.assertEqual(meshes, [mesh_with_number(corners, search, at) for at in range(len(meshes))])
            for number in (len(meshes), len(meshes) + 1, 10 ** 9, HUGE):
                self.assertRaises(InvalidNumber, mesh_with_number, corners, search, number)

    def test_numbers_of_four_corners(self):
        for search in SEARCHES:
            meshes = in_order(4, search)
            for at in list(range(0, 728, 91)) + [727]:
                self.assertEqual([at, meshes[at]], [mesh_number(meshes[at], search), mesh_with_number(4, search, at)])
            self.assertRaises(InvalidNumber, mesh_with_number, 4, search, 728)

    def test_how_many_trees_have_so_many(self):
        for corners, search in itertools.product((1, 2, 3, 4), SEARCHES):
            many = [len(outer_tried(tree, search)) for tree in trees_walked(corners)]
            self.assertEqual(tuple(many.count(ties) for ties in range(max(many) + 1)), outer_spread(corners, search))

    def test_twelve_corners(self):
        flat, up = (0,) * 12, tuple(range(2, 13)) + (0,)
        inner = tuple(itertools.combinations(range(1, 13), 2))
        self.assertEqual([ALL, ALL, ALL], [mesh_of(flat, "queue", inner), mesh_of(flat, "stack", inner),
                                           mesh_of(up, "deep", tuple(outer_ties(up, "deep")))])
        self.assertEqual([(flat, inner), (flat, inner), ALL],
                         [parts_of(ALL, "queue"), parts_of(ALL, "stack"), carried(ALL, "queue", "stack")])
        for search in SEARCHES:
            tree, ties = parts_of(ALL, search)
            self.assertEqual(ALL, mesh_of(tree, search, ties))

    def test_one_corner(self):
        for search in SEARCHES:
            self.assertEqual([ONE, ((0,), ()), [ONE], 0, ONE, (1,)],
                             [mesh_of((0,), search, ()), parts_of(ONE, search), meshes_by((0,), search),
                              mesh_number(ONE, search), mesh_with_number(1, search, 0), outer_spread(1, search)])
        self.assertEqual(ONE, carried(ONE, "stack", "queue"))

    def test_limits(self):
        # By the queue the tree of a row has as many outer ties as the row has displacement.
        eight, nine = tree_by_queue((0, 0, 0, 0, 3, 5, 5)), tree_by_queue((0, 0, 0, 0, 3, 4, 5))
        self.assertEqual([8, 9], [len(outer_ties(tree, "queue")) for tree in (eight, nine)])
        check_limits(self, [(meshes_by, [eight, "queue"], [nine, "queue"], 8),
                            (meshes_by, [(0,) * 4, "queue"], [(0,) * 12, "queue"], 8),
                            (meshes_by, [(0,) * 12, "deep"], [tuple(range(2, 13)) + (0,), "deep"], 8)])
        for search in SEARCHES:
            check_limits(self, [(mesh_number, [full_mesh(4), search], [full_mesh(5), search], 4),
                                (mesh_number, [N, search], [ALL, search], 4),
                                (mesh_with_number, [4, search, 0], [5, search, HUGE], 4),
                                (mesh_with_number, [4, search, 727], [12, search, 0], 4),
                                (outer_spread, [4, search], [5, search], 4),
                                (outer_spread, [1, search], [12, search], 4)])

    def test_eight_outer_ties(self):
        row = (0, 1, 2, 3, 4, 5, 6, 7, 0, 9, 10, 11)
        for tree, search in ((tree_by_queue(row), "queue"), (tree_by_stack(row), "stack"),
                             ((9,) * 8 + (0,) * 4, "deep"), ((2, 3, 4, 5, 6, 7, 8, 9, 0, 1, 1, 1), "rings")):
            outer = outer_ties(tree, search)
            meshes = meshes_by(tree, search)
            self.assertEqual([8, 256, sorted(meshes)], [len(outer), len(set(meshes)), meshes])
            self.assertEqual([tree] * 256, [tree_found(mesh, search) for mesh in meshes])
            self.assertEqual(tuple(sorted(tree_mesh(tree) + tuple(outer))), mesh_of(tree, search, tuple(outer)))

    def test_wrong_arguments(self):
        tree, mesh, search = (InvalidTree, NO_TREES), (InvalidMesh, NO_MESHES), (InvalidSearch, NO_SEARCHES)
        ties, number = (InvalidTies, NO_OUTER), (InvalidNumber, out_of(1, 12))
        check_wrong(self, [(mesh_of, [S, "queue", ((2, 3),)], [tree, search, ties]),
                           (mesh_of, [T, "deep", ()],
                            [tree, search, (InvalidTies, [((1, 3),), ((0, 1),) * 2, ((False, 1),), ((0, True),)])]),
                           (mesh_of, [S, "stack", ((1, 3), (2, 3))],
                            [tree, search, (InvalidTies, [((True, 3), (2, 3)), ((2, 3), (1, 3)), ((1, 3),) * 2])]),
                           (parts_of, [M, "rings"], [mesh, search]), (meshes_by, [S, "rings"], [tree, search]),
                           (carried, [N, "queue", "stack"], [mesh, (InvalidSearch, NO_LINES + ["deep"])] +
                            [(InvalidSearch, NO_LINES + ["deep"])]),
                           (mesh_number, [M, "deep"], [mesh, search]), (outer_spread, [4, "deep"], [number, search]),
                           (mesh_with_number, [4, "deep", 727], [number, search, (InvalidNumber, NO_COUNT + [728])]),
                           (mesh_with_number, [2, "rings", 3], [number, search, (InvalidNumber, [4, 100, HUGE])])])
        # Ahead of the limit an unlikely number is wrong, too.
        check_wrong(self, [(mesh_with_number, [1, "deep", 0], [number, search, (InvalidNumber, NO_COUNT)])])
        self.assertRaises(InvalidNumber, mesh_with_number, 5, "deep", -1)

    def test_new_lists(self):
        check_new(self, [(meshes_by, [S, "stack"])])
