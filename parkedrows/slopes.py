"""How many rows are held by bounds that are each greater by the same step, also by moduli."""

from parkedrows.checks import check_cars, check_number, is_within, power
from parkedrows.errors import InvalidCars

MOST_SLOPE = 10 ** 6
MOST_FAR = 10 ** 30


def check_slope(first, step):
    """Let a first bound and a step pass."""
    check_number(first, 1, MOST_SLOPE)
    check_number(step, 0, MOST_SLOPE)


def check_far(far_cars, modulus):
    """Let a number of cars and a modulus pass that are from 1 to 10 ** 30."""
    if not is_within(far_cars, 1, MOST_FAR):
        raise InvalidCars("cars must be an integer from 1 to 10 ** 30")
    check_number(modulus, 1, MOST_FAR)


def power_rest(base, times, modulus):
    """What the product of so many times the base leaves, divided by a modulus."""
    rest = 1 % modulus
    square = base % modulus
    left = times
    while left > 0:
        if left % 2 == 1:
            rest = rest * square % modulus
        square = square * square % modulus
        left = left // 2
    return rest


def count_sloped(first, step, cars):
    """How many rows are held by so many bounds, the first one and each further one greater by the step."""
    check_slope(first, step)
    check_cars(cars)
    return first * power(first + cars * step, cars - 1)


def sloped_rest(first, step, far_cars, modulus):
    """What the number of such rows leaves, divided by a modulus."""
    check_slope(first, step)
    check_far(far_cars, modulus)
    return first * power_rest(first + far_cars * step, far_cars - 1, modulus) % modulus


def parked_rest(far_cars, modulus):
    """What the number of all parked rows leaves, divided by a modulus."""
    check_far(far_cars, modulus)
    return power_rest(far_cars + 1, far_cars - 1, modulus)


def prime_rest(far_cars, modulus):
    """What the number of all prime rows leaves, divided by a modulus."""
    check_far(far_cars, modulus)
    return power_rest(far_cars - 1, far_cars - 1, modulus)
