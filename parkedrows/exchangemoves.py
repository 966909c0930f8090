"""Rows of exchanges moved ahead and behind, turned, mirrored and led round."""

from parkedrows.chains import check_exchanges
from parkedrows.checks import check_most, check_number
from parkedrows.errors import Unlike

MOST_STEPS = 1000
MOST_MOVED = 4


def pair_of(one, other):
    """The exchange of two points, the lesser one first."""
    return (one, other) if one < other else (other, one)


def changed_for(point, exchange):
    """The other point of an exchange, for one of its points; all others stay."""
    a, b = exchange
    if point == a:
        return b
    return a if point == b else point


def exchange_changed(exchange, other):
    """An exchange whose points are changed for one another, if they are points of the other exchange."""
    a, b = exchange
    return pair_of(changed_for(a, other), changed_for(b, other))


def check_move(exchanges, index):
    """Let a row of exchanges pass, and an index that has one behind it."""
    check_exchanges(exchanges)
    check_number(index, 0, len(exchanges) - 2)


def move_ahead(exchanges, index):
    """A row of exchanges in which the one behind an index is moved ahead to it."""
    one, other = exchanges[index:index + 2]
    return exchanges[:index] + (other, exchange_changed(one, other)) + exchanges[index + 2:]


def move_behind(exchanges, index):
    """A row of exchanges in which the one at an index is moved behind the next one."""
    one, other = exchanges[index:index + 2]
    return exchanges[:index] + (exchange_changed(other, one), one) + exchanges[index + 2:]


def moved_ahead(exchanges, index):
    """The row of exchanges in which the one with the index + 1 is moved ahead."""
    check_move(exchanges, index)
    return move_ahead(exchanges, index)


def moved_behind(exchanges, index):
    """The row of exchanges in which the one with the index is moved behind."""
    check_move(exchanges, index)
    return move_behind(exchanges, index)


def exchanges_turned(exchanges, steps):
    """The row of exchanges with all points greater by some steps, going round."""
    check_exchanges(exchanges)
    check_number(steps, -MOST_STEPS, MOST_STEPS)
    around = len(exchanges) + 1
    return tuple([pair_of((a + steps) % around, (b + steps) % around) for a, b in exchanges])


def exchanges_mirrored(exchanges):
    """The row of exchanges the other way round, each point changed for that from the other end."""
    check_exchanges(exchanges)
    return tuple([(len(exchanges) - b, len(exchanges) - a) for a, b in exchanges[::-1]])


def exchanges_round(exchanges):
    """The row of exchanges in which the first one stands at the end, its points less by 1, going round."""
    check_exchanges(exchanges)
    around = len(exchanges) + 1
    a, b = exchanges[0]
    return exchanges[1:] + (pair_of((a - 1) % around, (b - 1) % around),)


def moves_to(exchanges, other):
    """A tuple of moves, as few as can be, from a row of exchanges of at most 4 cars to another one."""
    check_exchanges(exchanges)
    check_exchanges(other)
    if len(exchanges) != len(other):
        raise Unlike("the rows of exchanges must have as many cars")
    check_most(len(exchanges), MOST_MOVED)
    ways = {exchanges: ()}
    line = [exchanges]
    while other not in ways:
        # Those behind as many moves, all of them, before those behind one move more.
        behind = {}
        for here in line:
            for index in range(len(here) - 1):
                behind[move_ahead(here, index)] = ways[here] + (("ahead", index),)
                behind[move_behind(here, index)] = ways[here] + (("behind", index),)
        line = [there for there in behind if there not in ways]
        for there in line:
            ways[there] = behind[there]
    return ways[other]
