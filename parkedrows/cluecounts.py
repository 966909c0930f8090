"""How many rows keep clues, and which one has which index among them."""

from parkedrows.checks import added, check_from_zero, check_most, pairs_among
from parkedrows.clues import check_cars_and_clues, check_clues, do_moves_keep, does_car_keep, keeps_clues
from parkedrows.errors import InvalidNumber
from parkedrows.rowlists import MOST_LISTED, MOST_NUMBERED, parked_rows
from parkedrows.rows import check_row, spots_of


def parkings(cars, clues):
    """For each car, the list of the pairs of a wish and a spot with which it keeps all clues on it, ascending."""
    return [[(wish, spot) for wish in range(cars) for spot in range(wish, cars)
             if does_car_keep(clues, car, wish, spot)] for car in range(cars)]


def parkings_now(pairs, taken):
    """Those pairs of a wish and a spot for which a car parks so, as spots are taken.

    Here and below, the taken spots are told by a number: the sum of 2 to the power of each of them.
    """
    # The spots from the wish on must be taken, up to the car's own one, and this must be free.
    return [(wish, spot) for wish, spot in pairs
            if taken & ((2 << spot) - (1 << wish)) == (1 << spot) - (1 << wish)]


def many_in(taken):
    """How many spots are taken."""
    many = 0
    left = taken
    while left > 0:
        many = many + (left & 1)
        left = left >> 1
    return many


def ways_behind(cars, pairs):
    """For each number of taken spots, the list of how many ways the cars left have to drive 0, 1 and so on."""
    all_taken = (1 << cars) - 1
    ways = {all_taken: [1]}
    for free in range(1, all_taken + 1):
        taken = all_taken - free
        found = [0]
        for wish, spot in parkings_now(pairs[many_in(taken)], taken):
            found = added(found, [0 for _ in range(spot - wish)] + ways[taken | (1 << spot)])
        ways[taken] = found
    return ways


def kept_of(ways, moved, clues):
    """The list of how many of such ways, behind so much that is moved, keep the clues on the displacement."""
    return [ways[more] if do_moves_keep(clues, moved + more) else 0 for more in range(len(ways))]


def count_kept(cars, clues):
    """The list of how many rows that keep clues have the displacement 0, 1 and so on."""
    ways = ways_behind(cars, parkings(cars, clues))
    return kept_of(added(ways[0], [0 for _ in range(pairs_among(cars) + 1)]), 0, clues)


def check_counted(cars, clues):
    """Let a number of cars pass that is at most 9, and clues of so many."""
    check_cars_and_clues(cars, clues)
    check_most(cars, MOST_NUMBERED)


def kept_rows(cars, clues, numbers):
    """The list of the rows that have these indices among those that keep clues."""
    pairs = parkings(cars, clues)
    ways = ways_behind(cars, pairs)
    return [kept_row(pairs, ways, clues, number) for number in numbers]


def kept_row(pairs, ways, clues, number):
    """The row that has this index among those that keep clues."""
    row = ()
    taken = 0
    moved = 0
    ahead = number
    for own in pairs:
        choices = parkings_now(own, taken)
        begun = [sum(kept_of(ways[taken | (1 << spot)], moved + spot - wish, clues)) for wish, spot in choices]
        at = 0
        while ahead >= begun[at]:
            ahead = ahead - begun[at]
            at = at + 1
        wish, spot = choices[at]
        row = row + (wish,)
        taken = taken | (1 << spot)
        moved = moved + spot - wish
    return row


def count_clued(cars, clues):
    """How many rows of at most 9 cars keep clues."""
    check_counted(cars, clues)
    return sum(count_kept(cars, clues))


def clued_moves(cars, clues):
    """The tuple of how many rows of at most 9 cars that keep clues have the displacement 0, 1 and so on."""
    check_counted(cars, clues)
    return tuple(count_kept(cars, clues))


def first_clued(cars, clues):
    """The first row of at most 9 cars that keeps clues, or None."""
    if count_clued(cars, clues) == 0:
        return None
    return kept_rows(cars, clues, [0])[0]


def last_clued(cars, clues):
    """The last row of at most 9 cars that keeps clues, or None."""
    many = count_clued(cars, clues)
    if many == 0:
        return None
    return kept_rows(cars, clues, [many - 1])[0]


def clued_with(cars, clues, number):
    """The row of at most 9 cars that has this index among those that keep clues."""
    check_cars_and_clues(cars, clues)
    check_from_zero(number)
    if number >= count_clued(cars, clues):
        raise InvalidNumber("there are not more than so many rows")
    return kept_rows(cars, clues, [number])[0]


def clued_number(row, clues):
    """The index of a row of at most 9 cars among those that keep clues, or None if it does not keep them."""
    check_row(row)
    check_clues(len(row), clues)
    check_most(len(row), MOST_NUMBERED)
    if not keeps_clues(row, clues):
        return None
    pairs = parkings(len(row), clues)
    ways = ways_behind(len(row), pairs)
    spots = spots_of(row)
    number = 0
    taken = 0
    moved = 0
    for car in range(len(row)):
        for wish, spot in parkings_now(pairs[car], taken):
            if wish < row[car]:
                number = number + sum(kept_of(ways[taken | (1 << spot)], moved + spot - wish, clues))
        taken = taken | (1 << spots[car])
        moved = moved + spots[car] - row[car]
    return number


def clued_rows(cars, clues):
    """The ascending list of all rows of at most 5 cars that keep clues."""
    check_cars_and_clues(cars, clues)
    check_most(cars, MOST_LISTED)
    return [row for row in parked_rows(cars) if keeps_clues(row, clues)]
