"""Clues on wishes, on spots, and on what cars drive beyond their wishes."""

from parkedrows.checks import check_cars, has_size, is_within
from parkedrows.errors import InvalidClues
from parkedrows.rows import check_row, displacement, spots_of

MOST_CLUES = 40
MOST_MOVES = 66
CAR_WORDS = ("wish", "spot", "moved")


def are_limits(low, high, most):
    """Whether both are integers from 0 to the most, the low one not greater than the high one."""
    return is_within(low, 0, most) and is_within(high, low, most)


def is_clue(value, cars):
    """Whether any value is a clue of so many cars."""
    if not has_size(value, 3, 4):
        return False
    if len(value) == 3:
        return value[0] == "all" and are_limits(value[1], value[2], MOST_MOVES)
    word, car, low, high = value
    return word in CAR_WORDS and is_within(car, 0, cars - 1) and are_limits(low, high, cars - 1)


def are_clues_of(cars, value):
    """Whether any value is clues of a number of cars from 1 to 12."""
    return has_size(value, 0, MOST_CLUES) and all([is_clue(clue, cars) for clue in value])


def check_clues(cars, clues):
    """Let clues of so many cars pass."""
    if not are_clues_of(cars, clues):
        raise InvalidClues("the clues must be a tuple of 0 to 40 clues of so many cars")


def check_cars_and_clues(cars, clues):
    """Let a number of cars pass, and clues of so many."""
    check_cars(cars)
    check_clues(cars, clues)


def does_car_keep(clues, car, wish, spot):
    """Whether a car that has this wish, and this spot, keeps all clues on it."""
    numbers = {"wish": wish, "spot": spot, "moved": spot - wish}
    own = [clue for clue in clues if clue[0] in numbers and clue[1] == car]
    return all([low <= numbers[word] <= high for word, _, low, high in own])


def do_moves_keep(clues, moves):
    """Whether a displacement keeps all clues on it."""
    return all([clue[1] <= moves <= clue[2] for clue in clues if clue[0] == "all"])


def are_clues(cars, value):
    """Whether any value is clues of so many cars."""
    check_cars(cars)
    return are_clues_of(cars, value)


def keeps_clues(row, clues):
    """Whether a row keeps clues of as many cars."""
    check_row(row)
    check_clues(len(row), clues)
    spots = spots_of(row)
    if not do_moves_keep(clues, displacement(row)):
        return False
    return all([does_car_keep(clues, car, row[car], spots[car]) for car in range(len(row))])
