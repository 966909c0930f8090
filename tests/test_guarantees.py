"""Tests of what the document promises between the worlds: [3]."""

import itertools
import unittest

from parkedrows.burning import load_level, load_of_row, row_of_load
from parkedrows.circles import is_ring_row, ring_turned
from parkedrows.grains import grain_added
from parkedrows.labels import cars_changed, labelled_of, row_of_labelled, second_count
from parkedrows.labelsweeps import labelled_by_sweep, sweep_cells, sweep_of
from parkedrows.loadgroup import akin_load, akin_row, are_akin, load_order, load_sum
from parkedrows.loads import settled, spills_of
from parkedrows.pathcounts import bounce_counts, difference_counts, joint_counts, meeting_counts
from parkedrows.paths import bounce, meeting_pairs, path_area
from parkedrows.rowlists import parked_rows
from parkedrows.rows import displacement, is_parked, is_prime
from parkedrows.sweeps import swept
from parkedrows.trees import code_of, is_tree
from parkedrows.treerows import tree_by_queue, tree_by_stack
from tests.helper import (drive, few_paths, few_rows, loads_again, ring_rows, rows_driven,
                          spill_by_spill, tally)


class TestRowsAndTrees(unittest.TestCase):
    def test_as_many_rows_as_trees(self):
        for cars in (1, 2, 3, 4):
            parents = itertools.product(range(cars + 1), repeat=cars)
            many = (cars + 1) ** (cars - 1)
            self.assertEqual([many, many], [len(parked_rows(cars)), len([some for some in parents if is_tree(some)])])

    def test_parked_just_if_no_wish_in_order_is_greater_than_its_place(self):
        for cars in (1, 2, 3, 4, 5):
            for row in itertools.product(range(cars), repeat=cars):
                self.assertIs(all(wish <= place for place, wish in enumerate(sorted(row))), is_parked(row))

    def test_displacement_and_wishes(self):
        for row in few_rows():
            self.assertEqual(len(row) * (len(row) - 1) // 2, displacement(row) + sum(row))

    def test_just_one_turning_is_parked(self):
        for row in (row for cars in (1, 2, 3, 4) for row in ring_rows(cars)):
            self.assertTrue(is_ring_row(row))
            self.assertEqual(1, sum(is_parked(ring_turned(row, steps)) for steps in range(len(row) + 1)))

    def test_rows_trees_and_codes_one_to_one(self):
        for cars in (1, 2, 3, 4):
            rows = parked_rows(cars)
            for tree_of in (tree_by_queue, tree_by_stack):
                self.assertEqual(len(rows), len({tree_of(row) for row in rows}))
                self.assertEqual(set(itertools.product(range(cars + 1), repeat=cars - 1)),
                                 {code_of(tree_of(row)) for row in rows})


class TestPaths(unittest.TestCase):
    def test_a_row_is_known_by_its_labelled_path(self):
        for row in few_rows():
            path, word = labelled_of(row)
            self.assertEqual(row, row_of_labelled((path, word)))
            self.assertEqual(displacement(row), path_area(path))
            self.assertIs(path.count(0) == 1, is_prime(row))

    def test_meeting_pairs_area_and_bounce(self):
        for path in few_paths(6):
            self.assertEqual(len(meeting_pairs(path)), path_area(swept(path)))
            self.assertEqual(path_area(path), bounce(swept(path)))

    def test_a_path_is_known_by_its_sweep(self):
        paths = few_paths(6)
        self.assertEqual(sorted(paths), sorted(swept(path) for path in paths))

    def test_second_count_by_cells(self):
        for row in few_rows():
            labelled = labelled_of(row)
            self.assertEqual(second_count(labelled), len(sweep_cells(sweep_of(labelled))))
            self.assertEqual(labelled, labelled_by_sweep(sweep_of(labelled)))

    def test_counts_with_both_numbers_exchanged(self):
        for count, most in ((joint_counts, 5), (meeting_counts, 9), (bounce_counts, 9)):
            for cars in range(1, most + 1):
                triples = count(cars)
                self.assertEqual(triples, sorted((other, one, many) for one, other, many in triples))

    def test_differences(self):
        for cars in (1, 2, 3, 4, 5):
            rows = rows_driven(cars)
            differences = tally(second_count(labelled_of(row)) - displacement(row) for row in rows)
            middle = cars * (cars - 1) // 2
            sums = tally(sum(some) - middle for some in itertools.product(range(cars + 1), repeat=cars - 1))
            self.assertEqual(sums, differences)
            self.assertEqual(tuple(sums.get(more, 0) for more in range(-middle, middle + 1)), difference_counts(cars))

    def test_cars_with_neighbouring_numbers_exchanged(self):
        for row in few_rows():
            path, word = labelled = labelled_of(row)
            for car in range(len(row) - 1):
                one, other = sorted((word.index(car), word.index(car + 1)))
                if other == one + 1 and path[other] > path[one]:
                    continue
                meet = (one, other) in meeting_pairs(path)
                changed = second_count(cars_changed(labelled, car)) - second_count(labelled)
                self.assertEqual(1 if meet else 0, abs(changed), (labelled, car))


class TestLoads(unittest.TestCase):
    def test_settling_loses_as_many_grains_as_there_are_spills(self):
        for load in ((9, 0, 4), (1000,) * 12, (7,), (5, 5, 5, 5), (0, 1000)):
            self.assertEqual(sum(load) - sum(settled(load)), sum(spills_of(load)))
            for choose in (min, max):
                self.assertEqual((settled(load), spills_of(load)), spill_by_spill(load, choose))

    def test_loads_that_come_again_are_parked_rows_turned(self):
        for corners in (1, 2, 3, 4):
            loads = loads_again(corners)
            self.assertEqual(sorted(load_of_row(row) for row in rows_driven(corners)), loads)
            self.assertEqual((corners + 1) ** (corners - 1), len(loads))
            for load in loads:
                self.assertEqual(displacement(row_of_load(load)), load_level(load))

    def test_sums_are_a_group(self):
        for corners in (1, 2, 3):
            loads = loads_again(corners)
            for one in loads:
                self.assertEqual(loads, sorted(load_sum(one, other) for other in loads))
                for other in loads:
                    self.assertEqual(load_sum(one, other), load_sum(other, one))
        few = loads_again(3)
        for one, other, third in itertools.product(few[::3], few[1::4], few[::5]):
            self.assertEqual(load_sum(load_sum(one, other), third), load_sum(one, load_sum(other, third)))

    def test_orders(self):
        for corners in (1, 2, 3, 4):
            for load in loads_again(corners):
                self.assertEqual(0, (corners + 1) % load_order(load))

    def test_grains_lead_back(self):
        for corners in (1, 2, 3, 4):
            for load in loads_again(corners):
                for corner in range(1, corners + 1):
                    here = load
                    for _ in range(corners + 1):
                        here = grain_added(here, corner)
                    self.assertEqual(load, here)

    def test_akin_just_if_turned_into_one_another(self):
        for corners in (1, 2, 3):
            around = corners + 1
            loads = list(itertools.product(range(0, 2 * corners + 2, 1 if corners < 3 else 2), repeat=corners))
            for one, other in itertools.product(loads, repeat=2):
                rests = tuple(grains % around for grains in one)
                turned = [ring_turned(rests, steps) for steps in range(around)]
                self.assertIs(tuple(grains % around for grains in other) in turned, are_akin(one, other))

    def test_just_one_that_comes_again_and_one_parked_row_are_akin(self):
        for corners in (1, 2, 3):
            rows, loads = rows_driven(corners), loads_again(corners)
            for load in itertools.product(range(corners + 2), repeat=corners):
                self.assertEqual([akin_row(load)], [row for row in rows if are_akin(row, load)])
                self.assertEqual([akin_load(load)], [again for again in loads if are_akin(again, load)])

    def test_rows_drive_as_told(self):
        for row in few_rows():
            self.assertIsNotNone(drive(akin_row(row)))
            self.assertEqual(row, akin_row(row))
