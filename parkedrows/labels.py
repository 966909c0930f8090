"""Labelled paths: paths whose levels are the cars of a parked row."""

from parkedrows.checks import check_most, is_order, is_within
from parkedrows.errors import InvalidCar, InvalidLabelled
from parkedrows.paths import check_path, do_meet, is_path
from parkedrows.rows import check_row

MOST_LISTED = 6


def is_labelled(value):
    """Whether any value is a labelled path of 1 to 12 levels."""
    if not isinstance(value, tuple) or len(value) != 2:
        return False
    path, labels = value
    return is_path(path) and is_order(labels, len(path)) and do_labels_fit(path, labels)


def do_labels_fit(path, labels):
    """Whether each level that is higher than the one ahead has the greater car."""
    return all([labels[level] > labels[level - 1] for level in range(1, len(path)) if path[level] > path[level - 1]])


def check_labelled(labelled):
    """Let a labelled path pass."""
    if not is_labelled(labelled):
        raise InvalidLabelled("the value must be a labelled path of 1 to 12 levels")


def labelled_of(row):
    """The labelled path of a parked row."""
    check_row(row)
    labels = [car for wish in range(len(row)) for car in range(len(row)) if row[car] == wish]
    return (tuple([level - row[labels[level]] for level in range(len(row))]), tuple(labels))


def row_of_labelled(labelled):
    """The parked row whose labelled path this is."""
    check_labelled(labelled)
    path, labels = labelled
    levels = [labels.index(car) for car in range(len(path))]
    return tuple([level - path[level] for level in levels])


def does_count(path, labels, one, other):
    """Whether two levels count, the one being ahead of the other."""
    if path[one] == path[other]:
        return labels[one] < labels[other]
    return do_meet(path, one, other) and labels[one] > labels[other]


def pairs_that_count(path, labels):
    """The ascending list of the pairs of levels that count, with such labels."""
    return [(one, other) for one in range(len(path)) for other in range(one + 1, len(path))
            if does_count(path, labels, one, other)]


def counting_pairs(labelled):
    """The ascending list of the pairs of levels that count."""
    check_labelled(labelled)
    path, labels = labelled
    return pairs_that_count(path, labels)


def second_count(labelled):
    """How many pairs of levels count."""
    return len(counting_pairs(labelled))


def reading_word(labelled):
    """The tuple of all cars, those on higher levels first, and of one height the later ones first."""
    check_labelled(labelled)
    path, labels = labelled
    downward = list(reversed(range(len(path))))
    return tuple([labels[level] for height in downward for level in downward if path[level] == height])


def falling_cars(labelled):
    """The ascending list of all cars that are read behind the car with the next number."""
    word = reading_word(labelled)
    return [car for car in range(len(word) - 1) if word.index(car) > word.index(car + 1)]


def can_change(path, labels, car):
    """Whether a car and the one with the next number may be exchanged in a labelled path."""
    if not is_within(car, 0, len(path) - 2):
        return False
    level = labels.index(car)
    return labels.index(car + 1) != level + 1 or path[level + 1] <= path[level]


def cars_changed(labelled, car):
    """The labelled path in which a car and the one with the next number are exchanged."""
    check_labelled(labelled)
    path, labels = labelled
    if not can_change(path, labels, car):
        raise InvalidCar("the car can't be exchanged with the one that has the next number")
    changed = {car: car + 1, car + 1: car}
    return (path, tuple([changed.get(label, label) for label in labels]))


def labels_for(path):
    """The ascending list of all labels that fit a path."""
    words = [()]
    for level in range(len(path)):
        is_higher = level > 0 and path[level] > path[level - 1]
        words = [word + (car,) for word in words for car in range(len(path))
                 if car not in word and (not is_higher or car > word[-1])]
    return words


def labels_of(path):
    """The ascending list of all labelled paths with this path of at most 6 levels."""
    check_path(path)
    check_most(len(path), MOST_LISTED)
    return [(path, labels) for labels in labels_for(path)]


def count_labels(path):
    """How many labelled paths there are with this path."""
    check_path(path)
    many = 1
    climbing = 1
    for level in range(1, len(path)):
        climbing = climbing + 1 if path[level] > path[level - 1] else 1
        # Of the cars up to here, those of the levels that climb together stand in just one order.
        many = many * (level + 1) // climbing
    return many
