"""How many homes make tables, fill places, and have costs and lots."""

from math import comb

from parkedrows.checks import (added, all_within, check_most, check_number, has_size, is_ascending, is_within,
                               multiplied, pairs_among, power)
from parkedrows.errors import InvalidFilled, InvalidPlaces, InvalidTable
from parkedrows.rowlists import many_parked, moves_of_parked
from parkedrows.tablefills import check_places, is_table

MOST_LISTED = 6
MOST_COUNTED = 60


def check_table(table):
    """Let a table pass."""
    if not is_table(table):
        raise InvalidTable("the table must have things, numbered from 0, and a free place")


def ranges_in(table):
    """For each thing, the pair of the first home, and of how many, going on, it can have."""
    ranges = []
    for thing in range(len(table) - table.count(None)):
        place = table.index(thing)
        many = 1
        # It can have come from behind things that were laid ahead of it, next to one another.
        while table[place - many] is not None and table[place - many] < thing:
            many = many + 1
        ranges.append(((place - many + 1) % len(table), many))
    return tuple(ranges)


def homes_for(table):
    """The ascending list of all homes, all things being there, whose table this is, of at most 6 things."""
    check_table(table)
    check_most(len(table) - table.count(None), MOST_LISTED)
    found = [()]
    for first, many in ranges_in(table):
        own = sorted([int((first + at) % len(table)) for at in range(many)])
        found = [homes + (home,) for homes in found for home in own]
    return found


def home_ranges(table):
    """The tuple of the pairs of the first home, and of how many, going on, that each thing can have."""
    check_table(table)
    return ranges_in(table)


def count_homes(table):
    """How many homes there are, all things being there, whose table this is."""
    check_table(table)
    product = 1
    for _, many in ranges_in(table):
        product = product * many
    return product


def run_sizes(places, filled):
    """The list of the sizes of the lots that these places make, as long as there are."""
    sizes = []
    for place in filled:
        # The place ahead of the place 0 is the last one.
        if (place - 1) % places not in filled:
            size = 1
            while (place + size) % places in filled:
                size = size + 1
            sizes.append(size)
    return sizes


def count_filling(places, value):
    """How many homes of as many things, all there, fill just these places."""
    check_places(places)
    if not has_size(value, 0, places - 1) or not all_within(value, 0, places - 1):
        raise InvalidFilled("the filled places must be a tuple of fewer places than there are")
    if not is_ascending(value):
        raise InvalidFilled("the filled places must be in ascending order")
    ways = 1
    done = 0
    for size in run_sizes(places, value):
        done = done + size
        ways = ways * comb(done, size) * many_parked(size)
    return ways


def around(places, many, ways):
    """How many homes of so many things there are, if so many ways lead to some whose last place is free."""
    # The ring can be turned so that any of the free places is the last one.
    return ways * places // (places - many)


def homes_by_cost(places, many):
    """The tuple of how many homes of so many things, all there, have the cost 0, 1 and so on."""
    check_places(places)
    check_number(many, 0, places - 1)
    spreads = moves_of_parked(many)
    # For 0 things, 1 and so on, how many ways of each cost lead to lots, perhaps empty, each ahead of a free place.
    laid = [[1]] + [[0] for _ in range(many)]
    for _ in range(places - many):
        laid = [laid_ahead(laid[:things + 1], spreads) for things in range(many + 1)]
    return tuple([around(places, many, ways) for ways in laid[many]])


def laid_ahead(laid, spreads):
    """The list of how many ways of each cost there are when one lot more, perhaps an empty one, is laid ahead."""
    things = len(laid) - 1
    grown = []
    for size in range(things + 1):
        chosen = [comb(things, size) * ways for ways in spreads[size]]
        grown = added(grown, multiplied(chosen, laid[things - size]))
    return grown


def homes_by_lots(places, many):
    """The tuple of how many homes of so many things, all there, have no lots, one and so on."""
    check_places(places)
    check_number(many, 0, places - 1)
    free = places - many
    # For 0 things, 1 and so on, how many ways there are to so many lots one behind another, none of them empty.
    ways = [1] + [0 for _ in range(many)]
    found = []
    for lots in range(many + 1):
        if lots <= free:
            found.append(around(places, many, comb(free, lots) * ways[many]))
        ways = [sum([comb(things, size) * many_parked(size) * ways[things - size] for size in range(1, things + 1)])
                for things in range(many + 1)]
    return tuple(found)


def check_many_places(places):
    """Let a number of places pass that is from 1 to 60."""
    if not is_within(places, 1, MOST_COUNTED):
        raise InvalidPlaces("places must be an integer from 1 to 60")


def ways_ahead(free, many):
    """How many homes of so many things there are ahead of so many free places, the last one of which is the end."""
    if many == 0:
        return 1
    return free * power(free + many, many - 1)


def miss_of(places, many):
    """The steps of one thing more, over all homes of so many things and all places."""
    missed = 0
    for size in range(1, many + 1):
        # In a lot of so many things, and behind it, one thing more has as many steps as are left, from each place.
        ways = comb(many, size) * many_parked(size) * ways_ahead(places - many - 1, many - size)
        missed = missed + pairs_among(size + 1) * ways
    return places * missed


def total_cost(places, many):
    """The sum of the costs of all homes of so many things, all there, for 1 to 60 places."""
    check_many_places(places)
    check_number(many, 0, places - 1)
    # Each thing is one thing more behind those of less number; those of greater number may have any homes.
    return sum([miss_of(places, ahead) * power(places, many - 1 - ahead) for ahead in range(many)])


def total_miss(places, many):
    """The sum, over all homes of so many things, all there, and all places, of the steps of one thing more."""
    check_many_places(places)
    check_number(many, 0, places - 1)
    return miss_of(places, many)
