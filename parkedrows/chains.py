"""Chains of partings, rows of exchanges, and the parked rows that they are."""

from parkedrows.checks import MOST_CARS, all_within, has_size
from parkedrows.errors import InvalidChain, InvalidExchanges
from parkedrows.partings import is_parting, is_within_lots, points_of, split_off
from parkedrows.rows import check_row


def is_chain(value):
    """Whether any value is a chain of 1 to 12 cars."""
    if not has_size(value, 2, MOST_CARS + 1) or not all([is_parting(parting) for parting in value]):
        return False
    # Of a finer parting with one lot more the other one comes by joining two lots.
    if not all([points_of(value[at]) == len(value) == len(value[at]) + at for at in range(len(value))]):
        return False
    return all([is_within_lots(value[at - 1], value[at]) for at in range(1, len(value))])


def latter_lot(lot, wish, wishes):
    """The lot that the car with a wish joined to the rest of a lot, behind the cars with these wishes."""
    points = [point for point in lot if point > wish]
    many = 1
    # A lot comes of one joining fewer than it has points, each of a car with a wish in it.
    while len([own for own in wishes if own in points[:many]]) >= many:
        many = many + 1
    return tuple(points[:many])


def chain_of(row):
    """The chain whose row a parked row is."""
    check_row(row)
    parting = (tuple(range(len(row) + 1)),)
    chain = (parting,)
    for car in reversed(range(len(row))):
        joint = [lot for lot in parting if row[car] in lot][0]
        parting = split_off(parting, latter_lot(joint, row[car], row[:car]))
        chain = (parting,) + chain
    return chain


def exchange_between(parting, behind):
    """The exchange that leads from the turn of a parting to that of one behind it in a chain."""
    former, latter = [lot for lot in parting if lot not in behind]
    return ([point for point in former if point < latter[0]][-1], latter[-1])


def exchanges_in(chain):
    """The tuple of the exchanges that lead through a chain."""
    return tuple([exchange_between(chain[at], chain[at + 1]) for at in range(len(chain) - 1)])


def row_of_chain(value):
    """The parked row of a chain."""
    if not is_chain(value):
        raise InvalidChain("the chain must be a chain of 1 to 12 cars")
    return tuple([label for label, _ in exchanges_in(value)])


def is_exchange(value, cars):
    """Whether any value is an exchange of two of the points of so many cars."""
    return has_size(value, 2, 2) and all_within(value, 0, cars) and value[0] < value[1]


def are_exchanges(value):
    """Whether any value is a row of exchanges of 1 to 12 cars."""
    if not has_size(value, 1, MOST_CARS) or not all([is_exchange(item, len(value)) for item in value]):
        return False
    turn = list(range(len(value) + 1))
    for a, b in value:
        turn[a], turn[b] = turn[b], turn[a]
    return turn == list(range(1, len(turn))) + [0]


def check_exchanges(exchanges):
    """Let a row of exchanges pass."""
    if not are_exchanges(exchanges):
        raise InvalidExchanges("the exchanges must be a row of exchanges of 1 to 12 cars")


def exchanges_of(row):
    """The row of exchanges of the chain of a parked row."""
    return exchanges_in(chain_of(row))


def row_of_exchanges(value):
    """The parked row of the chain of a row of exchanges."""
    check_exchanges(value)
    return tuple([a for a, _ in value])
