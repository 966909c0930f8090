"""Sweeps of labelled paths, and the cells of these that count."""

from parkedrows.checks import is_order
from parkedrows.errors import InvalidSweep
from parkedrows.labels import check_labelled, do_labels_fit
from parkedrows.paths import is_path, path_cells
from parkedrows.sweeps import sweep_order, swept, swept_back


def sweep_of(labelled):
    """The sweep of a labelled path."""
    check_labelled(labelled)
    path, labels = labelled
    return (swept(path), tuple([labels[level] for level in sweep_order(path)]))


def labelled_behind(path, word):
    """The pair of a path and of cars whose sweep would be this, if the cars fit the path."""
    back = swept_back(path)
    order = sweep_order(back)
    return (back, tuple([word[order.index(level)] for level in range(len(word))]))


def is_sweep(value):
    """Whether any value is the sweep of some labelled path."""
    if not isinstance(value, tuple) or len(value) != 2:
        return False
    path, word = value
    if not is_path(path) or not is_order(word, len(path)):
        return False
    back, labels = labelled_behind(path, word)
    return do_labels_fit(back, labels)


def check_sweep(value):
    """Let the sweep of a labelled path pass."""
    if not is_sweep(value):
        raise InvalidSweep("the value must be the sweep of a labelled path")


def labelled_by_sweep(value):
    """The labelled path whose sweep this is."""
    check_sweep(value)
    path, word = value
    return labelled_behind(path, word)


def sweep_cells(value):
    """The ascending list of all cells of a labelled sweep that count."""
    check_sweep(value)
    path, word = value
    return [(one, other) for one, other in path_cells(path) if word[one] < word[other]]
