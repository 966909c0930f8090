"""How many partings, chains and rows of exchanges there are."""

from math import comb

from parkedrows.chains import is_exchange
from parkedrows.checks import check_cars, check_most, check_number, is_within, power
from parkedrows.errors import InvalidExchange, InvalidPoints
from parkedrows.partings import LEAST_POINTS, check_parting, complement, parting_by_marks

MOST_COUNTED = 60
MOST_LOTS = 100
MOST_LAYERS = 20
MOST_LISTED = 5


def check_many_points(points):
    """Let a number of points pass that is from 2 to 60."""
    if not is_within(points, LEAST_POINTS, MOST_COUNTED):
        raise InvalidPoints("points must be an integer from 2 to 60")


def count_partings(points, lots):
    """How many partings of 2 to 60 points have so many lots."""
    check_many_points(points)
    check_number(lots, 0, MOST_LOTS)
    if lots == 0:
        return 0
    return comb(points, lots) * comb(points, lots - 1) // points


def count_layers(points, many):
    """How many tuples of so many partings there are, each finer than the next one, or the same."""
    check_many_points(points)
    check_number(many, 1, MOST_LAYERS)
    return comb(points * (many + 1), points - 1) // points


def count_chains_to(parting):
    """How many ways lead to a parting from that with one point in each lot, joining two lots each time."""
    ways = 1
    done = 0
    for lot in parting:
        # The joinings within one lot are a chain of as many points, done in between those of other lots.
        done = done + len(lot) - 1
        ways = ways * comb(done, len(lot) - 1) * power(len(lot), len(lot) - 2)
    return ways


def count_through(parting):
    """How many chains have a parting."""
    check_parting(parting)
    # What is less fine than a parting is, by its complement, finer than the complement of the parting.
    return count_chains_to(parting) * count_chains_to(complement(parting))


def check_exchange(exchange, cars):
    """Let an exchange of two of the points of so many cars pass."""
    if not is_exchange(exchange, cars):
        raise InvalidExchange("the exchange must be a pair of points, the lesser one first")


def count_begun(cars, exchange):
    """How many rows of exchanges of so many cars begin with an exchange."""
    check_cars(cars)
    check_exchange(exchange, cars)
    # Its chains are those in which the exchange makes the first lot of two points.
    a, b = exchange
    return count_through(parting_by_marks([a if point == b else point for point in range(cars + 1)]))


def count_with(cars, exchange):
    """How many rows of exchanges of at most 5 cars have an exchange."""
    begun = count_begun(cars, exchange)
    check_most(cars, MOST_LISTED)
    # Moved ahead it stays as it is, so as many rows have it at each index, and none has it twice.
    return cars * begun
