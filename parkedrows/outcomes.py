"""Spots told alone: by which rows all cars come to them."""

from parkedrows.checks import MOST_CARS, has_size, is_order, multiplied
from parkedrows.errors import InvalidSpots


def are_spots(value):
    """Whether any value is spots of 1 to 12 cars."""
    return has_size(value, 1, MOST_CARS) and is_order(value, len(value))


def lows_of_spots(spots):
    """The tuple of the least wish of each car in the rows by which all cars come to these spots."""
    if not are_spots(spots):
        raise InvalidSpots("the spots must be a tuple of 1 to 12 spots, each once")
    lows = []
    for car in range(len(spots)):
        low = spots[car]
        while low - 1 in spots[:car]:
            low = low - 1
        lows.append(low)
    return tuple(lows)


def count_of_spots(spots):
    """How many rows there are by which all cars come to these spots."""
    many = 1
    for low, spot in zip(lows_of_spots(spots), spots):
        many = many * (spot - low + 1)
    return many


def moves_of_spots(spots):
    """The tuple of how many of these rows have each displacement, from 0 to the greatest one."""
    moves = [1]
    for low, spot in zip(lows_of_spots(spots), spots):
        moves = multiplied(moves, [1 for _ in range(low, spot + 1)])
    return tuple(moves)
