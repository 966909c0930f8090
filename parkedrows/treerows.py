"""Trees of parked rows, and rows of trees, by the queue and by the stack."""

from parkedrows.rows import check_row
from parkedrows.trees import check_tree, children_in


def corners_wishing(row, wish):
    """The ascending list of the corners of all cars with a wish."""
    return [car + 1 for car in range(len(row)) if row[car] == wish]


def tree_by_queue(row):
    """The tree of a parked row by the queue."""
    check_row(row)
    line = [0]
    for place in range(len(row)):
        line = line + corners_wishing(row, place)
    return tuple([line[wish] for wish in row])


def tree_by_stack(row):
    """The tree of a parked row by the stack."""
    check_row(row)
    line = [0]
    for place in range(len(row)):
        line = line[:place + 1] + corners_wishing(row, place) + line[place + 1:]
    return tuple([line[wish] for wish in row])


def queue_of(tree):
    """The tuple of the root and all corners, as they stand in the queue in the end."""
    check_tree(tree)
    line = [0]
    for place in range(len(tree)):
        line = line + children_in(tree, line[place])
    return tuple(line)


def stack_of(tree):
    """The tuple of the root and all corners, as they stand in the stack in the end."""
    check_tree(tree)
    line = [0]
    for place in range(len(tree)):
        line = line[:place + 1] + children_in(tree, line[place]) + line[place + 1:]
    return tuple(line)


def row_by_queue(tree):
    """The parked row whose tree by the queue this is."""
    line = queue_of(tree)
    return tuple([line.index(parent) for parent in tree])


def row_by_stack(tree):
    """The parked row whose tree by the stack this is."""
    line = stack_of(tree)
    return tuple([line.index(parent) for parent in tree])
