"""Sweeps of paths, there and back."""

from parkedrows.checks import check_most
from parkedrows.paths import check_path, path_steps, read_steps

MOST_SWEPT = 8


def levels_in_order(path):
    """The list of the indices of all levels, those of lesser height first, the earlier ones first."""
    return [level for height in range(len(path)) for level in range(len(path)) if path[level] == height]


def sweep_order(path):
    """The tuple of the indices of all levels in the sweep order."""
    check_path(path)
    return tuple(levels_in_order(path))


def sweep_once(path):
    """The sweep of what is known to be a path."""
    steps = []
    # No level is higher than the last index, so all levels have had both steps when this ends.
    for height in range(len(path) + 1):
        for level in path:
            if level == height - 1:
                steps.append("r")
            elif level == height:
                steps.append("u")
    return read_steps("".join(steps))


def swept(path):
    """The sweep of a path."""
    check_path(path)
    return sweep_once(path)


def swept_back(path):
    """The path whose sweep this is."""
    # A level belongs to the last level ahead of it that is lower by 1. In the steps of a sweep, the "r" of a
    # level stands just ahead of one "u" for each level that belongs to it; at first stand those of height 0.
    many = [len(part) for part in path_steps(path).split("r")]
    firsts = [1 + sum(many[:index]) for index in range(len(many))]
    waiting = [(level, 0) for level in range(1, 1 + many[0])]
    heights = []
    while len(waiting) > 0:
        level, height = waiting[0]
        heights.append(height)
        below = [(firsts[level] + count, height + 1) for count in range(many[level])]
        waiting = below + waiting[1:]
    return tuple(heights)


def sweeps_home(path):
    """The least number, from 1 on, of sweeps by which a path of at most 8 levels comes again."""
    check_path(path)
    check_most(len(path), MOST_SWEPT)
    sweeps = 1
    here = sweep_once(path)
    while here != path:
        here = sweep_once(here)
        sweeps = sweeps + 1
    return sweeps
