"""Single grains that are added to loads that come again, or taken back."""

from parkedrows.burning import check_again
from parkedrows.checks import check_corner, has_size
from parkedrows.errors import InvalidCorner
from parkedrows.loads import settle

MOST_GRAINS_OF_RAIN = 60


def with_grains(load, corner, many):
    """The list of the grains of a load with so many more on a corner."""
    grains = list(load)
    grains[corner - 1] = grains[corner - 1] + many
    return grains


def grain_added(load, corner):
    """What comes of settling a load with a grain more on a corner."""
    check_again(load)
    check_corner(corner, 1, len(load))
    left, _ = settle(with_grains(load, corner, 1))
    return left


def spills_by_grain(load, corner):
    """The tuple of how often each corner spills as a load with a grain more on a corner is settled."""
    check_again(load)
    check_corner(corner, 1, len(load))
    _, spills = settle(with_grains(load, corner, 1))
    return spills


def grain_taken(load, corner):
    """The load that comes again, of which this comes by a grain more on a corner."""
    check_again(load)
    check_corner(corner, 1, len(load))
    # So many grains and one more lead back, so all but one of them lead to the load ahead.
    left, _ = settle(with_grains(load, corner, len(load)))
    return left


def rain(load, corners):
    """The list of a load and of all that come of it, a grain being added on one corner after another."""
    check_again(load)
    if not has_size(corners, 0, MOST_GRAINS_OF_RAIN):
        raise InvalidCorner("the corners must be a tuple of 0 to 60 corners")
    for corner in corners:
        check_corner(corner, 1, len(load))
    left = load
    loads = [load]
    for corner in corners:
        left, _ = settle(with_grains(left, corner, 1))
        loads.append(left)
    return loads
