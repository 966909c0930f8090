"""Lists of parked rows, their numbers in order, and how many there are."""

from math import comb

from parkedrows.checks import (added, check_cars, check_from_zero, check_most, check_number, is_within, multiplied,
                               power)
from parkedrows.errors import InvalidCars, InvalidNumber
from parkedrows.rows import check_row, is_parked

MOST_LISTED = 5
MOST_NUMBERED = 9
MOST_COUNTED = 60


def parked_rows(cars):
    """The ascending list of all parked rows of at most 5 cars."""
    check_cars(cars)
    check_most(cars, MOST_LISTED)
    rows = [()]
    for _ in range(cars):
        rows = [row + (wish,) for row in rows for wish in range(cars)]
    return [row for row in rows if is_parked(row)]


def rising_rows(cars):
    """The ascending list of all rising parked rows of at most 9 cars."""
    check_cars(cars)
    check_most(cars, MOST_NUMBERED)
    rows = [(0,)]
    for place in range(1, cars):
        rows = [row + (wish,) for row in rows for wish in range(row[-1], place + 1)]
    return rows


def count_begun_rows(cars, wishes):
    """How many parked rows of so many cars begin with these wishes."""
    rest = cars - len(wishes)
    # ways[many] tells how often just so many of the other cars have wishes of those gone through.
    ways = [1] + [0 for _ in range(rest)]
    for wish in range(cars):
        given = len([own for own in wishes if own <= wish])
        grown = [sum([ways[few] * comb(rest - few, many - few) for few in range(many + 1)])
                 for many in range(rest + 1)]
        ways = [grown[many] if many + given > wish else 0 for many in range(rest + 1)]
    return ways[rest]


def row_number(row):
    """The index of a row of at most 9 cars among all parked rows of as many, in ascending order."""
    check_row(row)
    check_most(len(row), MOST_NUMBERED)
    number = 0
    for place in range(len(row)):
        for wish in range(row[place]):
            number = number + count_begun_rows(len(row), row[:place] + (wish,))
    return number


def row_with(cars, number):
    """The parked row of at most 9 cars with this index in ascending order."""
    check_cars(cars)
    check_from_zero(number)
    check_most(cars, MOST_NUMBERED)
    if number >= many_parked(cars):
        raise InvalidNumber("there are not more than so many rows")
    row = ()
    ahead = number
    for _ in range(cars):
        wish = 0
        begun = count_begun_rows(cars, row + (0,))
        while ahead >= begun:
            ahead = ahead - begun
            wish = wish + 1
            begun = count_begun_rows(cars, row + (wish,))
        row = row + (wish,)
    return row


def check_many_cars(cars):
    """Let a number of cars pass that is from 1 to 60."""
    if not is_within(cars, 1, MOST_COUNTED):
        raise InvalidCars("cars must be an integer from 1 to 60")


def many_parked(cars):
    """How many parked rows of so many cars there are; one for no car."""
    return power(cars + 1, cars - 1)


def moves_of_parked(most):
    """For 0 cars, 1 and so on, the list of how many parked rows have the displacement 0, 1 and so on."""
    spreads = [[1]]
    for cars in range(1, most + 1):
        spread = []
        for ahead in range(cars):
            # The last car parks behind so many others, at most as many spots behind its wish.
            others = multiplied(spreads[ahead], spreads[cars - 1 - ahead])
            chosen = [comb(cars - 1, ahead) for _ in range(ahead + 1)]
            spread = added(spread, multiplied(others, chosen))
        spreads.append(spread)
    return spreads


def count_parked(cars):
    """How many parked rows there are of 1 to 60 cars."""
    check_many_cars(cars)
    return many_parked(cars)


def count_rising(cars):
    """How many rising parked rows there are of 1 to 60 cars."""
    check_many_cars(cars)
    return comb(2 * cars, cars) // (cars + 1)


def count_prime(cars):
    """How many prime rows there are of 1 to 60 cars."""
    check_many_cars(cars)
    return power(cars - 1, cars - 1)


def count_first(cars, wish):
    """How many parked rows of 1 to 60 cars there are in which the car 0 has this wish."""
    check_many_cars(cars)
    check_number(wish, 0, cars - 1)
    # Wishes may change places, so the car may as well come last, when one spot, not ahead of its wish, is free.
    return sum([comb(cars - 1, free) * many_parked(free) * many_parked(cars - 1 - free)
                for free in range(wish, cars)])
