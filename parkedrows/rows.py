"""Rows of wishes by which all cars are parked."""

from parkedrows.checks import MOST_CARS, all_within, has_size, pairs_among
from parkedrows.errors import InvalidRow


def are_wishes(value):
    """Whether any value is wishes of 1 to 12 cars."""
    return has_size(value, 1, MOST_CARS) and all_within(value, 0, len(value) - 1)


def is_parked(value):
    """Whether any value is a parked row."""
    if not are_wishes(value):
        return False
    wishes = wishes_in_order(value)
    return all([wishes[place] <= place for place in range(len(wishes))])


def check_row(row):
    """Let a parked row pass."""
    if not is_parked(row):
        raise InvalidRow("the row must be a parked row of 1 to 12 cars")


def wishes_in_order(row):
    """The list of all wishes, the lesser ones first."""
    return sorted([int(wish) for wish in row])


def spots_of(row):
    """The tuple of the spots of all cars."""
    check_row(row)
    taken = [False for _ in row]
    spots = []
    for wish in row:
        spot = wish
        while taken[spot]:
            spot = spot + 1
        taken[spot] = True
        spots.append(spot)
    return tuple(spots)


def cars_at(row):
    """The tuple of the cars in all spots."""
    spots = spots_of(row)
    return tuple([spots.index(spot) for spot in range(len(row))])


def displacement(row):
    """How far all cars together park behind the spots that they want."""
    check_row(row)
    return pairs_among(len(row)) - sum(row)


def lucky_cars(row):
    """The ascending list of the cars that park in the spot that they want."""
    spots = spots_of(row)
    return [car for car in range(len(row)) if spots[car] == row[car]]


def is_prime(row):
    """Whether the row is still parked with one of its zeros taken away."""
    check_row(row)
    wishes = wishes_in_order(row)
    return all([wishes[place] < place for place in range(1, len(wishes))])


def put_in_order(row):
    """The rising row with the same wishes."""
    check_row(row)
    return tuple(wishes_in_order(row))
