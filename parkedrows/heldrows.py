"""Rows that are held by bounds: put in order, each integer is less than its bound."""

from math import comb

from parkedrows.checks import added, all_within, check_most, has_size, is_integer, power
from parkedrows.errors import InvalidBounds

MOST_BOUNDS = 12
MOST_BOUND = 10 ** 6
MOST_LISTED = 2000
MOST_SPREAD = 200


def are_bounds(value):
    """Whether any value is bounds."""
    if not has_size(value, 1, MOST_BOUNDS) or not all_within(value, 1, MOST_BOUND):
        return False
    return all([value[place - 1] <= value[place] for place in range(1, len(value))])


def check_bounds(bounds):
    """Let bounds pass."""
    if not are_bounds(bounds):
        raise InvalidBounds("the bounds must be 1 to 12 integers, none less than the one ahead")


def are_below(bounds, row):
    """Whether the integers of a row, put in order, are less than as many bounds."""
    ordered = sorted([int(item) for item in row])
    return all([item < bound for item, bound in zip(ordered, bounds)])


def is_held(bounds, value):
    """Whether any value is a row that is held by bounds."""
    check_bounds(bounds)
    if not has_size(value, len(bounds), len(bounds)):
        return False
    return all([is_integer(item) and item >= 0 for item in value]) and are_below(bounds, value)


def ways_on(left, many, width):
    """How often just so many of the items left have one of so many integers."""
    return comb(left, many) * power(width, many)


def rising_ways_on(left, many, width):
    """How often just so many of the items left, the next ones in order, have one of so many integers, and rise."""
    return comb(width + many - 1, many) if many > 0 else 1


def count_ways(bounds, ways_of):
    """How many rows are held by bounds, if the ways of items between two bounds are told by a function."""
    size = len(bounds)
    # ways[many] tells how often just so many items are less than the bounds gone through.
    ways = [1] + [0 for _ in bounds]
    former = 0
    for place in range(size):
        width = bounds[place] - former
        former = bounds[place]
        grown = [sum([ways[few] * ways_of(size - few, many - few, width) for few in range(many + 1)])
                 for many in range(size + 1)]
        ways = [grown[many] if many > place else 0 for many in range(size + 1)]
    return ways[size]


def count_held(bounds):
    """How many rows are held by bounds."""
    check_bounds(bounds)
    return count_ways(bounds, ways_on)


def count_held_rising(bounds):
    """How many rising rows are held by bounds."""
    check_bounds(bounds)
    return count_ways(bounds, rising_ways_on)


def many_behind(bounds, row):
    """How many integers, from 0 on, can stand behind what a held row begins with."""
    # Any row that begins so is held if it is with zeros behind; and what is too great first is one of the bounds.
    rest = tuple([0 for _ in bounds[len(row) + 1:]])
    levels = [bounds[place] for place in range(len(bounds)) if place == 0 or bounds[place] > bounds[place - 1]]
    return max([int(bound) for bound in levels if are_below(bounds, row + (bound - 1,) + rest)])


def held_rows(bounds):
    """The ascending list of all rows that are held by bounds, if they are at most 2000."""
    check_bounds(bounds)
    check_most(count_ways(bounds, ways_on), MOST_LISTED)
    rows = [()]
    for _ in bounds:
        rows = [row + (item,) for row in rows for item in range(many_behind(bounds, row))]
    return rows


def held_rising(bounds):
    """The ascending list of all rising rows that are held by bounds, if they are at most 2000."""
    check_bounds(bounds)
    check_most(count_ways(bounds, rising_ways_on), MOST_LISTED)
    rows = [()]
    for bound in bounds:
        rows = [row + (item,) for row in rows for item in range(row[-1] if len(row) > 0 else 0, bound)]
    return rows


def sums_with(sums, many, item):
    """The list of how many ways so many items have each sum, if some of them are the item, and the others less."""
    size = len(sums) - 1
    grown = []
    for few in range(many + 1):
        if len(sums[few]) > 0:
            chosen = comb(size - few, many - few)
            grown = added(grown, [0 for _ in range((many - few) * item)] + [chosen * ways for ways in sums[few]])
    return grown


def held_spread(bounds):
    """The spread of the sum over all rows that are held by bounds, which come to at most 200."""
    check_bounds(bounds)
    check_most(sum(bounds), MOST_SPREAD)
    # sums[many] has, for each sum, how often just so many items are less than the integers to come; empty for never.
    sums = [[1]] + [[] for _ in bounds]
    for item in range(bounds[-1]):
        due = len([bound for bound in bounds if bound <= item + 1])
        sums = [sums_with(sums, many, item) if many >= due else [] for many in range(len(sums))]
    return tuple(sums[-1])
