"""Tests of parkedrows.searches: [40], [41], [83]."""

import itertools
import unittest

from parkedrows.errors import InvalidMesh, InvalidSearch, InvalidTie, InvalidTree
from parkedrows.meshes import full_mesh, tree_mesh
from parkedrows.searches import does_keep, line_found, outer_ties, tree_found
from tests.helper import (HUGE, NO_INTEGERS, S, T, check_new, check_wrong, few_meshes, few_trees, outer_tried,
                          run_examples, search_done, walk_deep, walk_line)
from tests.test_meshes import ALL, M, N, NO_MESHES, NO_TIES, ONE, TAIL, bridges_tried, drawn_meshes
from tests.test_trees import NO_TREES

EXAMPLES = """
    >>> M = ((0, 1), (0, 2), (1, 2))
    >>> [tree_found(M, search) for search in ("queue", "stack", "deep", "rings")] + [line_found(M, search) for search in ("queue", "stack", "deep")]
    [(0, 0), (0, 0), (2, 0), (2, 0), (0, 1, 2), (0, 1, 2), (0, 2, 1)]
    >>> [[outer_ties(T, search) for search in ("queue", "stack", "deep", "rings")], [outer_ties(S, search) for search in ("queue", "stack", "deep", "rings")], does_keep(tree_mesh(T), (0, 1), "deep"), does_keep(tree_mesh(T), (1, 3), "deep"), does_keep(tree_mesh(T), (0, 2), "deep"), does_keep(M, (1, 2), "queue")]
    [[[(1, 3), (2, 3)], [(1, 3), (2, 3)], [(0, 1)], [(0, 1)]], [[(2, 3), (3, 4)], [(1, 3), (2, 3), (3, 4)], [(0, 1), (1, 2)], [(0, 1), (1, 2)]], True, False, False, True]
"""

SEARCHES = ("queue", "stack", "deep", "rings")
NO_SEARCHES = NO_INTEGERS + ["ring", "Queue", "queue ", "queuestack", "deep\n", b"queue", ("queue",), ["deep"], 0, 3,
                             HUGE, ("queue", "stack", "deep", "rings")]
NO_LINES = NO_SEARCHES + ["rings"]


class TestSearches(unittest.TestCase):
    def test_examples(self):
        run_examples(self, EXAMPLES, "searches meshes")

    def test_step_by_step(self):
        for mesh in few_meshes() + drawn_meshes(40, 12):
            for search in SEARCHES:
                self.assertEqual(search_done(mesh, search), tree_found(mesh, search), (mesh, search))
            self.assertEqual([walk_line(mesh, "queue")[1], walk_line(mesh, "stack")[1], walk_deep(mesh)[1]],
                             [line_found(mesh, search) for search in ("queue", "stack", "deep")])

    def test_outer_ties(self):
        for tree in few_trees()[::2] + [(0, 1, 1, 2, 2), (5, 0, 2, 0, 4), (3, 3, 0, 6, 1, 3)]:
            for search in SEARCHES:
                self.assertEqual(outer_tried(tree, search), outer_ties(tree, search), (tree, search))

    def test_trees_find_themselves(self):
        for tree in few_trees():
            for search in SEARCHES:
                self.assertEqual(tree, tree_found(tree_mesh(tree), search))

    def test_which_ties_keep_the_tree(self):
        for mesh in few_meshes()[::3] + drawn_meshes(12, 8):
            corners = max(high for _, high in mesh)
            bridges = bridges_tried(mesh)
            for tie, search in itertools.product(itertools.combinations(range(corners + 1), 2), SEARCHES):
                changed = tuple(sorted(set(mesh) ^ {tie}))
                kept = tie not in bridges and search_done(changed, search) == search_done(mesh, search)
                self.assertIs(kept, does_keep(mesh, tie, search), (mesh, tie, search))

    def test_twelve_corners(self):
        flat, down, up = (0,) * 12, tuple(range(12)), tuple(range(2, 13)) + (0,)
        self.assertEqual([flat, flat, up, (12,) * 11 + (0,)], [tree_found(ALL, search) for search in SEARCHES])
        self.assertEqual([tuple(range(13)), tuple(range(13)), (0,) + tuple(range(12, 0, -1))],
                         [line_found(ALL, search) for search in ("queue", "stack", "deep")])
        self.assertEqual([list(itertools.combinations(range(1, 13), 2))] * 2 + [[], []],
                         [outer_ties(flat, search) for search in SEARCHES])
        for tree in (flat, down, up, (12,) * 11 + (0,), (6, 6, 6, 6, 6, 0, 6, 7, 7, 7, 7, 7)):
            for search in SEARCHES:
                self.assertEqual(outer_tried(tree, search), outer_ties(tree, search))
        self.assertIs(True, does_keep(ALL, (11, 12), "queue"))
        self.assertIs(False, does_keep(ALL, (11, 12), "deep"))
        self.assertIs(False, does_keep(ALL, (11, 12), "rings"))
        self.assertIs(True, does_keep(ALL, (0, 11), "rings"))

    def test_one_corner(self):
        self.assertEqual([(0,)] * 4, [tree_found(ONE, search) for search in SEARCHES])
        self.assertEqual([(0, 1)] * 3, [line_found(ONE, search) for search in ("queue", "stack", "deep")])
        self.assertEqual([[]] * 4, [outer_ties((0,), search) for search in SEARCHES])
        self.assertEqual([False] * 4, [does_keep(ONE, (0, 1), search) for search in SEARCHES])

    def test_wrong_arguments(self):
        mesh, search = (InvalidMesh, NO_MESHES), (InvalidSearch, NO_SEARCHES)
        for word in SEARCHES:
            check_wrong(self, [(tree_found, [M, word], [mesh, search]),
                               (outer_ties, [S, word], [(InvalidTree, NO_TREES), search]),
                               (does_keep, [full_mesh(3), (0, 1), word], [mesh, (InvalidTie, NO_TIES), search]),
                               (does_keep, [TAIL, (3, 5), word], [mesh, (InvalidTie, [(5, 6), (0, 6)]), search])])
            if word != "rings":
                check_wrong(self, [(line_found, [N, word], [mesh, (InvalidSearch, NO_LINES)])])

    def test_new_lists(self):
        check_new(self, [(outer_ties, [S, "stack"]), (outer_ties, [T, "rings"])])
