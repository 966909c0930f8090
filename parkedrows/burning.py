"""Burning: which loads come again, and the parked rows that they are when turned."""

from parkedrows.checks import pairs_among
from parkedrows.errors import InvalidLoad
from parkedrows.loads import check_load, check_settled, is_settled, settle
from parkedrows.rows import check_row, is_parked


def turned(load):
    """The tuple of what each corner lacks to be just settled; it leads rows to loads, too."""
    return tuple([len(load) - 1 - grains for grains in load])


def is_again(grains):
    """Whether a settled load comes again: it does just if it is, turned, a parked row."""
    return is_parked(turned(grains))


def comes_again(load):
    """Whether a load is settled and comes again."""
    return is_settled(load) and is_again(load)


def check_again(load):
    """Let a load pass that comes again."""
    check_settled(load)
    if not is_again(load):
        raise InvalidLoad("the load must be one that comes again")


def burning_rounds(load):
    """The tuple of the round in which each corner burns, None for one that does not."""
    check_settled(load)
    rounds = [None for _ in load]
    for number in range(1, len(load) + 1):
        unburnt = rounds.count(None)
        rounds = [number if old is None and grains >= unburnt - 1 else old for old, grains in zip(rounds, load)]
    return tuple(rounds)


def stuck_corners(load):
    """The ascending list of all corners that do not burn."""
    rounds = burning_rounds(load)
    return [corner for corner in range(1, len(load) + 1) if rounds[corner - 1] is None]


def turned_load(load):
    """A settled load turned."""
    check_settled(load)
    return turned(load)


def row_of_load(load):
    """The parked row that a load is when turned, if it comes again."""
    check_again(load)
    return turned(load)


def load_of_row(row):
    """The load that is this parked row when turned."""
    check_row(row)
    return turned(row)


def load_level(load):
    """How many grains a load that comes again has, less those of the loads with the fewest."""
    check_again(load)
    return sum(load) - pairs_among(len(load))


def again_behind(load):
    """The pair of the load that is made again of a load, and of how many steps this takes."""
    left, _ = settle(load)
    steps = 0
    while not is_again(left):
        left, _ = settle([grains + 1 for grains in left])
        steps = steps + 1
    return (left, steps)


def made_again(load):
    """The load that comes again, made by a grain more on each corner, and settling, as often as it takes."""
    check_load(load)
    left, _ = again_behind(load)
    return left


def steps_again(load):
    """How often each corner gets a grain more until a load comes again."""
    check_load(load)
    _, steps = again_behind(load)
    return steps
