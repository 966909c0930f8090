"""How many paths and labelled paths have such areas, counts and bounces."""

from parkedrows.checks import check_cars, check_most, pairs_among
from parkedrows.labels import labels_for, pairs_that_count
from parkedrows.paths import all_paths, bounce, check_path, meeting_pairs, path_area

MOST_JOINT = 5
MOST_LABELLED = 6


def counted(cars, pairs):
    """The ascending list of triples: pairs of numbers that paths of so many levels have, and how often."""
    found = {}
    for pair in pairs:
        found[pair] = found.get(pair, 0) + 1
    # No area, and no number of pairs of levels, is greater than the number of all pairs.
    numbers = range(pairs_among(cars) + 1)
    return [(one, other, found[(one, other)]) for one in numbers for other in numbers if (one, other) in found]


def joint_counts(cars):
    """The ascending list of (area, second count, many) over all labelled paths of at most 5 levels."""
    check_cars(cars)
    check_most(cars, MOST_JOINT)
    pairs = [(path_area(path), len(pairs_that_count(path, labels)))
             for path in all_paths(cars) for labels in labels_for(path)]
    return counted(cars, pairs)


def meeting_counts(cars):
    """The ascending list of (area, pairs that meet, many) over all paths of at most 9 levels."""
    paths = all_paths(cars)
    return counted(cars, [(path_area(path), len(meeting_pairs(path))) for path in paths])


def bounce_counts(cars):
    """The ascending list of (area, bounce, many) over all paths of at most 9 levels."""
    paths = all_paths(cars)
    return counted(cars, [(path_area(path), bounce(path)) for path in paths])


def second_counts(path):
    """How many labelled paths with this path of at most 6 levels have the second counts 0, 1 and so on."""
    check_path(path)
    check_most(len(path), MOST_LABELLED)
    counts = [len(pairs_that_count(path, labels)) for labels in labels_for(path)]
    many = [counts.count(count) for count in range(pairs_among(len(path)) + 1)]
    while many[-1] == 0:
        many.pop()
    return tuple(many)


def difference_counts(cars):
    """How many parked rows have a second count that is greater by so much than the area, from the least on."""
    check_cars(cars)
    # They are as many as the tuples of cars - 1 integers from 0 to cars with such a sum.
    many = [1]
    for _ in range(cars - 1):
        grown = len(many) + cars
        many = [sum(many[max(0, total - cars):total + 1]) for total in range(grown)]
    return tuple(many)
