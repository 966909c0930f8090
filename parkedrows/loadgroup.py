"""Sums of loads that come again, and loads that are akin."""

from parkedrows.burning import check_again, turned
from parkedrows.checks import check_cars, check_number, has_size
from parkedrows.circles import parked_turn
from parkedrows.errors import InvalidLoad
from parkedrows.loads import check_alike, check_load, is_load, settle

MOST_TIMES = 10 ** 30
MOST_LOADS = 60


def akin_parked(grains):
    """The parked row that is akin to so many grains, which may be below 0."""
    around = len(grains) + 1
    _, row = parked_turn(tuple([many % around for many in grains]))
    return row


def row_again(grains):
    """The row of the load that comes again and is akin to so many grains, which may be below 0."""
    # Turning leads what is akin to what is akin, and parked rows to loads that come again.
    return akin_parked(turned(grains))


def akin_again(grains):
    """The load that comes again and is akin to so many grains, which may be below 0."""
    return turned(row_again(grains))


def rows_summed(row, other):
    """The row of the sum of the loads of two rows of as many cars."""
    return row_again([one + more for one, more in zip(turned(row), turned(other))])


def row_times(row, times):
    """The row of so many times the load of a row; of opposites for a number below 0."""
    return row_again([grains * times for grains in turned(row)])


def neutral_load(cars):
    """The neutral load of so many corners."""
    check_cars(cars)
    return akin_again([0 for _ in range(cars)])


def load_sum(one, other):
    """The sum of two loads that come again."""
    check_again(one)
    check_again(other)
    check_alike(one, other)
    left, _ = settle([many + more for many, more in zip(one, other)])
    return left


def load_opposite(load):
    """The load that comes again whose sum with this one is the neutral load."""
    check_again(load)
    return akin_again([-grains for grains in load])


def load_times(load, times):
    """So many times a load that comes again; opposites for a number below 0."""
    check_again(load)
    check_number(times, -MOST_TIMES, MOST_TIMES)
    return akin_again([grains * times for grains in load])


def load_order(load):
    """The least number, from 1 on, of times that are the neutral load."""
    check_again(load)
    neutral = neutral_load(len(load))
    times = 1
    while akin_again([grains * times for grains in load]) != neutral:
        times = times + 1
    return times


def are_akin(one, other):
    """Whether two loads lead to one another by spilling and taking spills back."""
    check_load(one)
    check_load(other)
    check_alike(one, other)
    return akin_parked(one) == akin_parked(other)


def akin_row(load):
    """The parked row that is akin to a load."""
    check_load(load)
    return akin_parked(load)


def akin_load(load):
    """The load that comes again and is akin to a load."""
    check_load(load)
    return akin_again(load)


def check_loads(loads):
    """Let a tuple of 0 to 60 loads pass that have as many corners."""
    if not has_size(loads, 0, MOST_LOADS) or not all([is_load(load) for load in loads]):
        raise InvalidLoad("the loads must be a tuple of 0 to 60 loads")
    if not all([len(load) == len(loads[0]) for load in loads]):
        raise InvalidLoad("the loads must have as many corners")


def akin_lots(loads):
    """The list of the lists of the indices of loads that are akin to one another."""
    check_loads(loads)
    lots = {}
    for index in range(len(loads)):
        row = akin_parked(loads[index])
        lots[row] = lots.get(row, []) + [index]
    return [lots[row] for row in lots]
