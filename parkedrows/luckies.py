"""How many parked rows there are by lucky cars, by zeros, by what they begin with, and by how often wishes come."""

from math import comb

from parkedrows.checks import all_within, has_size, multiplied
from parkedrows.errors import InvalidCounts, InvalidWishes
from parkedrows.rowlists import MOST_COUNTED, check_many_cars, count_begun_rows


def lucky_spread(many_cars):
    """The spread of the number of lucky cars over all parked rows of 1 to 60 cars."""
    check_many_cars(many_cars)
    spread = [0, 1]
    for ahead in range(1, many_cars):
        spread = multiplied(spread, [ahead, many_cars - ahead + 1])
    return tuple(spread)


def zeros_spread(many_cars):
    """The spread of the number of wishes that are 0 over all parked rows of 1 to 60 cars."""
    check_many_cars(many_cars)
    spread = [0, 1]
    for _ in range(many_cars - 1):
        spread = multiplied(spread, [many_cars, 1])
    return tuple(spread)


def count_beginning(many_cars, wishes):
    """How many parked rows of 1 to 60 cars begin with these wishes."""
    check_many_cars(many_cars)
    if not has_size(wishes, 0, many_cars) or not all_within(wishes, 0, many_cars - 1):
        raise InvalidWishes("the wishes must be a tuple of at most as many wishes as there are cars")
    return count_begun_rows(many_cars, wishes)


def count_by_counts(counts):
    """How many parked rows have each wish as often as its item tells."""
    if not has_size(counts, 1, MOST_COUNTED) or not all_within(counts, 0, len(counts)):
        raise InvalidCounts("the counts must be a tuple of 1 to 60 integers from 0 on")
    if sum(counts) != len(counts):
        raise InvalidCounts("the counts must come to as many as there are")
    ways = 1
    done = 0
    for wish in range(len(counts)):
        done = done + counts[wish]
        # Just if more cars than this have wishes up to this one, the spots up to it are filled.
        ways = ways * comb(done, counts[wish]) if done > wish else 0
    return ways
