"""Tests of parkedrows.labels: [11], [12], [54]."""

import itertools
import unittest

from parkedrows.errors import InvalidCar, InvalidLabelled, InvalidPath, InvalidRow
from parkedrows.labels import (cars_changed, count_labels, counting_pairs, falling_cars, is_labelled, labelled_of,
                               labels_of, reading_word, row_of_labelled, second_count)
from parkedrows.paths import is_path
from tests.helper import (NO_TUPLES, P, check_limits, check_new, check_wrong, few_paths, few_rows, labelled_tried,
                          out_of, paths_tried, rows_driven, run_examples)
from tests.test_paths import NO_PATHS
from tests.test_rows import NO_ROWS

EXAMPLES = """
    >>> [labelled_of(P), labelled_of(W), row_of_labelled(((0, 1, 1, 1), (1, 2, 3, 0))) == W, is_labelled(((0, 1), (1, 0))), is_labelled(((0, 0), (1, 0))), counting_pairs(labelled_of(W)), [second_count(labelled_of(some)) for some in (P, U, L, W)]]
    [((0, 1, 1), (1, 2, 0)), ((0, 1, 1, 1), (1, 2, 3, 0)), True, False, True, [(1, 2)], [0, 3, 0, 1]]
    >>> [reading_word(labelled_of(W)), falling_cars(labelled_of(W)), reading_word(labelled_of(U)), falling_cars(labelled_of(U)), cars_changed(labelled_of(W), 2), labels_of((0, 1, 1)), count_labels((0, 1, 1, 1)), count_labels((0,) * 5)]
    [(0, 3, 2, 1), [1, 2], (2, 1, 0), [0, 1], ((0, 1, 1, 1), (1, 3, 2, 0)), [((0, 1, 1), (0, 1, 2)), ((0, 1, 1), (0, 2, 1)), ((0, 1, 1), (1, 2, 0))], 12, 120]
"""

NO_LABELLED = NO_TUPLES + [(), ((0,),), ((0,), (0,), (0,)), [(0,), (0,)], ((0,), [0]), ([0], (0,)), ((0,), 0),
                           ((0,), (1,)), ((0,), (False,)), ((False,), (0,)), ((0,), ()), ((), ()), ((0,), (0, 1)),
                           ((0, 1), (0,)), ((0, 1), (1, 0)), ((0, 0), (0, 0)), ((0, 0), (1, 2)), ((0, 0), (True, 0)),
                           ((0, 2), (0, 1)), ((1, 0), (0, 1)), ((0, 1, 2), (0, 2, 1)), ((0, 0), (0, -1)),
                           ((0,) * 13, tuple(range(13))), ((0,), None), (None, (0,)), ((0, 0), "01"),
                           ((0, 0), (10 ** 119, 0)), ((0,) * 500, tuple(range(500))), ((0, 0), ((0,), (1,)))]

X = ((0, 1, 2, 2, 1, 0, 0, 1, 2, 3, 3, 0), (1, 4, 9, 2, 3, 0, 5, 6, 7, 11, 10, 8))


def labelled_by_wishes(row):
    """The labelled path of a row, its cars sorted by their wishes."""
    cars = sorted(range(len(row)), key=lambda car: (row[car], car))
    return tuple(level - row[car] for level, car in enumerate(cars)), tuple(cars)


def pairs_counting(path, word):
    """The pairs of levels that meet and count."""
    return [(i, j) for i, j in itertools.combinations(range(len(path)), 2)
            if (path[i] == path[j] and word[i] < word[j]) or (path[i] == path[j] + 1 and word[i] > word[j])]


class TestLabels(unittest.TestCase):
    def test_examples(self):
        run_examples(self, EXAMPLES, "labels")

    def test_which_pairs_are_labelled(self):
        for levels in (1, 2, 3):
            right = [pair for path in paths_tried(levels) for pair in labelled_tried(path)]
            for heights in itertools.product(range(-1, levels + 1), repeat=levels):
                for word in itertools.product(range(-1, levels + 1), repeat=levels):
                    self.assertIs((heights, word) in right, is_labelled((heights, word)), (heights, word))
        for path in paths_tried(4):
            right = labelled_tried(path)
            for word in itertools.permutations(range(4)):
                self.assertIs((path, word) in right, is_labelled((path, word)))

    def test_rows_there_and_back(self):
        for cars in (1, 2, 3, 4):
            found = []
            for row in rows_driven(cars):
                labelled = labelled_by_wishes(row)
                self.assertEqual(labelled, labelled_of(row))
                self.assertEqual(row, row_of_labelled(labelled))
                found.append(labelled)
            self.assertEqual(sorted(pair for path in paths_tried(cars) for pair in labelled_tried(path)),
                             sorted(found))

    def test_what_counts(self):
        for row in few_rows():
            path, word = labelled = labelled_by_wishes(row)
            self.assertEqual(pairs_counting(path, word), counting_pairs(labelled))
            self.assertEqual(len(pairs_counting(path, word)), second_count(labelled))

    def test_reading(self):
        for row in few_rows():
            path, word = labelled = labelled_by_wishes(row)
            read = [word[level] for level in sorted(range(len(path)), key=lambda at: (-path[at], -at))]
            self.assertEqual(tuple(read), reading_word(labelled))
            self.assertEqual([car for car in sorted(word) if car + 1 in read[:read.index(car)]],
                             falling_cars(labelled))

    def test_cars_changed(self):
        for row in few_rows():
            path, word = labelled = labelled_by_wishes(row)
            right = labelled_tried(path)
            for car in range(len(row) - 1):
                other = tuple({car: car + 1, car + 1: car}.get(some, some) for some in word)
                at = word.index(car)
                if word[at + 1:at + 2] == (car + 1,) and path[at + 1] > path[at]:
                    self.assertNotIn((path, other), right)
                    self.assertRaises(InvalidCar, cars_changed, labelled, car)
                else:
                    self.assertIn((path, other), right)
                    self.assertEqual((path, other), cars_changed(labelled, car))
            for car in (-1, len(row) - 1, len(row)):
                self.assertRaises(InvalidCar, cars_changed, labelled, car)

    def test_all_labels_of_a_path(self):
        for path in few_paths(5):
            self.assertEqual(labelled_tried(path), labels_of(path))
            self.assertEqual(len(labelled_tried(path)), count_labels(path))

    def test_six_levels(self):
        self.assertEqual([720, 1, 20], [len(labels_of(path)) for path in ((0,) * 6, (0, 1, 2, 3, 4, 5),
                                                                          (0, 1, 2, 0, 1, 2))])
        self.assertEqual(labelled_tried((0, 1, 1, 2, 0, 1)), labels_of((0, 1, 1, 2, 0, 1)))

    def test_one_level(self):
        one = ((0,), (0,))
        self.assertEqual([True, one, (0,), [], 0, (0,), [], [one], 1],
                         [is_labelled(one), labelled_of((0,)), row_of_labelled(one), counting_pairs(one),
                          second_count(one), reading_word(one), falling_cars(one), labels_of((0,)),
                          count_labels((0,))])
        self.assertRaises(InvalidCar, cars_changed, one, 0)

    def test_twelve_levels(self):
        path, word = X
        self.assertTrue(is_labelled(X) and is_path(path))
        row = row_of_labelled(X)
        self.assertEqual((5, 0, 1, 3, 0, 6, 6, 6, 11, 0, 7, 6), row)
        self.assertEqual(X, labelled_of(row))
        self.assertEqual(pairs_counting(path, word), counting_pairs(X))
        self.assertEqual((10, 11, 7, 2, 9, 6, 3, 4, 8, 5, 0, 1), reading_word(X))
        self.assertEqual([1, 5, 6, 8, 9], falling_cars(X))
        self.assertEqual((path, (0, 4, 9, 2, 3, 1, 5, 6, 7, 11, 10, 8)), cars_changed(X, 0))
        for car in (5, 6):
            self.assertRaises(InvalidCar, cars_changed, X, car)
        self.assertEqual([479001600, 1, 479001600 // 6 // 24],
                         [count_labels(some) for some in ((0,) * 12, tuple(range(12)), path)])
        self.assertEqual(66, second_count(((0,) * 12, tuple(range(12)))))
        self.assertEqual(0, second_count(((0,) * 12, tuple(range(11, -1, -1)))))

    def test_any_value(self):
        for value in NO_LABELLED:
            self.assertIs(False, is_labelled(value), value)

    def test_wrong_arguments(self):
        labelled = [(InvalidLabelled, NO_LABELLED)]
        check_wrong(self, [(function, [((0, 1), (0, 1))], labelled) for function in
                           (row_of_labelled, counting_pairs, second_count, reading_word, falling_cars)])
        check_wrong(self, [(function, [(0, 1)], [(InvalidPath, NO_PATHS)]) for function in (labels_of, count_labels)])
        check_wrong(self, [(labelled_of, [P], [(InvalidRow, NO_ROWS)]),
                           (cars_changed, [((0, 1, 1), (1, 2, 0)), 0], labelled + [(InvalidCar, out_of(0, 1) + [1])]),
                           (cars_changed, [((0, 0, 0), (1, 2, 0)), 1], labelled + [(InvalidCar, out_of(0, 1))])])

    def test_limits(self):
        check_limits(self, [(labels_of, [(0, 1, 2, 3, 4, 5)], [(0, 1, 2, 3, 4, 5, 6)], 6),
                            (labels_of, [(0,)], [(0,) * 12], 6)])

    def test_new_lists(self):
        check_new(self, [(counting_pairs, [X]), (falling_cars, [X]), (labels_of, [(0, 1, 1)])])
