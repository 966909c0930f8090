"""What many modules ask of their arguments, and a power of integers."""

from parkedrows.errors import InvalidCars, InvalidCorner, InvalidNumber, TooMany

MOST_CARS = 12


def is_integer(value):
    """Whether any value is an integer; True and False are none."""
    return isinstance(value, int) and not isinstance(value, bool)


def is_within(value, least, most):
    """Whether any value is an integer from the least one to the most."""
    return is_integer(value) and least <= value <= most


def has_size(value, fewest, most):
    """Whether any value is a tuple of so many items, whatever they are."""
    return isinstance(value, tuple) and fewest <= len(value) <= most


def all_within(items, least, most):
    """Whether all items of a tuple are integers from the least one to the most."""
    return all([is_within(item, least, most) for item in items])


def is_ascending(items):
    """Whether each integer is greater than the one ahead of it."""
    return all([items[at - 1] < items[at] for at in range(1, len(items))])


def is_order(value, many):
    """Whether any value is a tuple of the integers from 0 to less than so many, each once."""
    if not has_size(value, many, many) or not all_within(value, 0, many - 1):
        return False
    return all([item in value for item in range(many)])


def check_cars(cars):
    """Let a number of cars pass that is from 1 to 12."""
    if not is_within(cars, 1, MOST_CARS):
        raise InvalidCars("cars must be an integer from 1 to 12")


def check_number(number, least, most):
    """Let an integer pass that is from the least one to the most."""
    if not is_within(number, least, most):
        raise InvalidNumber("the number must be an integer within its bounds")


def check_from_zero(number):
    """Let an integer from 0 on pass."""
    if not is_integer(number) or number < 0:
        raise InvalidNumber("the number must be an integer from 0 on")


def check_corner(corner, least, most):
    """Let a corner pass that is from the least one to the most."""
    if not is_within(corner, least, most):
        raise InvalidCorner("there is no such corner")


def check_most(many, limit):
    """Let pass what are no more than the limit; asked behind all other errors."""
    if many > limit:
        raise TooMany(limit)


def power(base, times):
    """The product of so many times the base; 1 also for a number of times below 0."""
    worth = 1
    for _ in range(times):
        worth = worth * base
    return worth


def pairs_among(many):
    """How many pairs there are among so many things."""
    return many * (many - 1) // 2


def ascending(values):
    """The list of unlike integers, strings or tuples in ascending order."""
    ordered = []
    for value in values:
        place = len([other for other in ordered if other < value])
        ordered = ordered[:place] + [value] + ordered[place:]
    return ordered


def multiplied(one, other):
    """The list of the numbers by which the product of two polynomials goes, each told by such a list."""
    product = [0 for _ in range(len(one) + len(other) - 1)]
    for at in range(len(one)):
        for to in range(len(other)):
            product[at + to] = product[at + to] + one[at] * other[to]
    return product


def added(one, other):
    """The list of the numbers of two lists, added; the shorter one goes on with zeros."""
    longer, shorter = (one, other) if len(one) > len(other) else (other, one)
    return [longer[at] + shorter[at] for at in range(len(shorter))] + longer[len(shorter):]
