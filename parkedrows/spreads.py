"""Spreads of displacements, of sums of wishes, and of overtakings."""

from parkedrows.checks import check_number, is_within
from parkedrows.errors import InvalidCars
from parkedrows.rowlists import moves_of_parked

MOST_CARS = 16
MOST_BASE = 1000


def check_few_cars(few_cars):
    """Let a number of cars pass that is from 1 to 16."""
    if not is_within(few_cars, 1, MOST_CARS):
        raise InvalidCars("cars must be an integer from 1 to 16")


def displacement_spread(few_cars):
    """The spread of the displacement over all parked rows of 1 to 16 cars."""
    check_few_cars(few_cars)
    return tuple(moves_of_parked(few_cars)[few_cars])


def wish_sum_spread(few_cars):
    """The spread of the sum of all wishes over all parked rows of 1 to 16 cars."""
    # It comes, with the displacement, to the greatest displacement that there is.
    return displacement_spread(few_cars)[::-1]


def overtaking_spread(few_cars):
    """The spread of the number of overtakings over all trees of 1 to 16 corners."""
    # As many trees have so many overtakings as parked rows have so great a displacement.
    return displacement_spread(few_cars)


def total_displacement(few_cars):
    """The sum of the displacements of all parked rows of 1 to 16 cars."""
    spread = displacement_spread(few_cars)
    return sum([moves * spread[moves] for moves in range(len(spread))])


def displacement_value(few_cars, number):
    """The sum of a number to the power of the displacement, over all parked rows of 1 to 16 cars."""
    check_few_cars(few_cars)
    check_number(number, -MOST_BASE, MOST_BASE)
    worth = 0
    for many in wish_sum_spread(few_cars):
        worth = worth * number + many
    return worth
