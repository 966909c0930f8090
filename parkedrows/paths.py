"""Paths, told by the heights of their levels."""

from parkedrows.checks import MOST_CARS, all_within, check_cars, check_most, has_size
from parkedrows.errors import InvalidPath, InvalidSteps

MOST_LISTED = 9


def is_path(value):
    """Whether any value is a path of 1 to 12 levels."""
    if not has_size(value, 1, MOST_CARS) or not all_within(value, 0, len(value) - 1):
        return False
    return value[0] == 0 and all([value[level] <= value[level - 1] + 1 for level in range(1, len(value))])


def check_path(path):
    """Let a path pass."""
    if not is_path(path):
        raise InvalidPath("the path must be a path of 1 to 12 levels")


def all_paths(cars):
    """The ascending list of all paths of at most 9 levels."""
    check_cars(cars)
    check_most(cars, MOST_LISTED)
    paths = [(0,)]
    for _ in range(1, cars):
        paths = [path + (height,) for path in paths for height in range(path[-1] + 2)]
    return paths


def path_steps(path):
    """The string of the steps of a path."""
    check_path(path)
    parts = ["u"]
    for level in range(1, len(path)):
        parts.append("r" * (path[level - 1] + 1 - path[level]))
        parts.append("u")
    parts.append("r" * (path[-1] + 1))
    return "".join(parts)


def read_steps(steps):
    """The tuple of the heights that steps tell, or None if they are not those of a path."""
    heights = []
    height = 0
    for step in steps:
        if step == "u":
            heights.append(height)
            height = height + 1
        elif step == "r" and height > 0:
            height = height - 1
        else:
            return None
    return tuple(heights) if height == 0 else None


def path_by_steps(value):
    """The path of 1 to 12 levels that has these steps."""
    path = read_steps(value) if isinstance(value, str) else None
    if path is None or not is_path(path):
        raise InvalidSteps("the value must be the steps of a path of 1 to 12 levels")
    return path


def path_area(path):
    """The sum of the heights of a path."""
    check_path(path)
    return sum(path)


def do_meet(path, one, other):
    """Whether two levels of a path meet, the one being ahead of the other."""
    return path[one] == path[other] or path[one] == path[other] + 1


def meeting_pairs(path):
    """The ascending list of the pairs of levels that meet."""
    check_path(path)
    return [(one, other) for one in range(len(path)) for other in range(one + 1, len(path))
            if do_meet(path, one, other)]


def path_cells(path):
    """The ascending list of the cells of a path."""
    check_path(path)
    return [(one, other) for one in range(len(path)) for other in range(one + 1, len(path))
            if one >= other - path[other]]


def spot_behind(path, spot):
    """The integer that follows a spot as the path bounces."""
    return len([level for level in range(len(path)) if level - path[level] <= spot])


def bounce_spots(path):
    """The tuple of the bounce spots of a path, the least one first."""
    check_path(path)
    spots = []
    spot = spot_behind(path, 0)
    while spot < len(path):
        spots.append(spot)
        spot = spot_behind(path, spot)
    return tuple(spots)


def bounce(path):
    """The sum, over the bounce spots, of what is left behind them."""
    return sum([len(path) - spot for spot in bounce_spots(path)])
