"""Loads of grains on the full web, and how they settle."""

from parkedrows.checks import MOST_CARS, all_within, has_size, is_within
from parkedrows.errors import InvalidCorner, InvalidLoad, Unlike

MOST_GRAINS = 1000


def is_load(value):
    """Whether any value is a load of 1 to 12 corners."""
    return has_size(value, 1, MOST_CARS) and all_within(value, 0, MOST_GRAINS)


def check_load(load):
    """Let a load pass."""
    if not is_load(load):
        raise InvalidLoad("the load must be a load of 1 to 12 corners")


def check_settled(load):
    """Let a settled load pass."""
    if not is_load(load) or len(high_corners(load)) > 0:
        raise InvalidLoad("the load must be a settled load of 1 to 12 corners")


def check_alike(one, other):
    """Let two loads pass that have as many corners."""
    if len(one) != len(other):
        raise Unlike("the loads must have as many corners")


def high_corners(grains):
    """The ascending list of all corners that have at least as many grains as neighbours."""
    return [corner for corner in range(1, len(grains) + 1) if grains[corner - 1] >= len(grains)]


def is_settled(load):
    """Whether no corner is unsteady."""
    check_load(load)
    return len(high_corners(load)) == 0


def unsteady_corners(load):
    """The ascending list of all unsteady corners."""
    check_load(load)
    return high_corners(load)


def spill(grains, corner, times):
    """The tuple of the grains behind so many spillings of a corner."""
    spread = [many + times for many in grains]
    spread[corner - 1] = grains[corner - 1] - times * len(grains)
    return tuple(spread)


def spilled(load, corner):
    """The load behind the spilling of an unsteady corner."""
    check_load(load)
    if not is_within(corner, 1, len(load)) or corner not in high_corners(load):
        raise InvalidCorner("the corner must be unsteady")
    return spill(load, corner, 1)


def settle(grains):
    """The pair of what comes of settling so many grains, and of how often each corner spills."""
    left = tuple(grains)
    spills = [0 for _ in grains]
    high = high_corners(left)
    while len(high) > 0:
        # One after another, each as often as it can: the order does not matter.
        for corner in high:
            times = left[corner - 1] // len(left)
            left = spill(left, corner, times)
            spills[corner - 1] = spills[corner - 1] + times
        high = high_corners(left)
    return (left, tuple(spills))


def settled(load):
    """What comes of settling a load."""
    check_load(load)
    left, _ = settle(load)
    return left


def spills_of(load):
    """The tuple of how often each corner spills when a load is settled."""
    check_load(load)
    _, spills = settle(load)
    return spills
