"""Partings of points on a ring into lots that do not cross."""

from parkedrows.checks import ascending, check_most, check_number, has_size, is_order, is_within
from parkedrows.errors import InvalidParting, InvalidPoints, InvalidTurn, Unlike

LEAST_POINTS = 2
MOST_POINTS = 13
MOST_LISTED = 7
MOST_STEPS = 1000


def is_parting(value):
    """Whether any value is a parting of 2 to 13 points."""
    if not has_size(value, 1, MOST_POINTS) or not all([has_size(lot, 1, MOST_POINTS) for lot in value]):
        return False
    points = [point for lot in value for point in lot]
    if not LEAST_POINTS <= len(points) <= MOST_POINTS or not is_order(tuple(points), len(points)):
        return False
    return value == parting_by_marks(marks_of(value)) and not do_cross(value)


def marks_of(lots):
    """For each of the points in the lots, the list of the index of its lot."""
    marks = {point: index for index in range(len(lots)) for point in lots[index]}
    return [marks[point] for point in range(len(marks))]


def parting_by_marks(marks):
    """The ascending tuple of lots, of all points with the same mark each."""
    firsts = [point for point in range(len(marks)) if marks[point] not in marks[:point]]
    return tuple([tuple([point for point in range(len(marks)) if marks[point] == marks[first]]) for first in firsts])


def do_cross(lots):
    """Whether two of some ascending lots cross."""
    for lot in lots:
        for former, later in zip(lot, lot[1:]):
            # What lies between two neighbours of a lot may not belong to a lot that lies elsewhere, too.
            between = [len([point for point in other if former < point < later]) for other in lots]
            if any([0 < between[at] < len(lots[at]) for at in range(len(lots))]):
                return True
    return False


def check_parting(parting):
    """Let a parting pass."""
    if not is_parting(parting):
        raise InvalidParting("the parting must be a parting of 2 to 13 points")


def points_of(parting):
    """How many points a parting has."""
    return sum([len(lot) for lot in parting])


def check_two_partings(parting, other):
    """Let two partings pass that have as many points."""
    check_parting(parting)
    check_parting(other)
    if points_of(parting) != points_of(other):
        raise Unlike("the partings must have as many points")


def parting_turn(parting):
    """The tuple of the next greater point in the lot of each point, or of the least one."""
    check_parting(parting)
    turn = [0 for _ in range(points_of(parting))]
    for lot in parting:
        for point, behind in zip(lot, lot[1:] + lot[:1]):
            turn[point] = behind
    return tuple(turn)


def parting_by_turn(value):
    """The parting whose turn this is."""
    if not has_size(value, LEAST_POINTS, MOST_POINTS) or not is_order(value, len(value)):
        raise InvalidTurn("the turn must be the turn of a parting of 2 to 13 points")
    marks = [least_on_way(value, point) for point in range(len(value))]
    parting = parting_by_marks(marks)
    if do_cross(parting) or parting_turn(parting) != value:
        raise InvalidTurn("the turn must be the turn of a parting of 2 to 13 points")
    return parting


def least_on_way(turn, point):
    """The least point to which a turn leads from a point."""
    least = point
    here = turn[point]
    while here != point:
        if here < least:
            least = here
        here = turn[here]
    return least


def turned_by(parting, steps):
    """A parting with each point greater by so many steps, going round."""
    marks = marks_of(parting)
    return parting_by_marks([marks[(point - steps) % len(marks)] for point in range(len(marks))])


def parting_turned(parting, steps):
    """A parting turned by some steps."""
    check_parting(parting)
    check_number(steps, -MOST_STEPS, MOST_STEPS)
    return turned_by(parting, steps)


def complement(parting):
    """The complement of a parting."""
    turn = parting_turn(parting)
    return parting_by_turn(tuple([turn.index((point + 1) % len(turn)) for point in range(len(turn))]))


def is_within_lots(parting, other):
    """Whether each lot of a parting is within a lot of the other one."""
    marks = marks_of(other)
    return all([marks[point] == marks[lot[0]] for lot in parting for point in lot])


def is_finer(parting, other):
    """Whether a parting is finer than another one of as many points, or the same."""
    check_two_partings(parting, other)
    return is_within_lots(parting, other)


def parting_meet(parting, other):
    """The parting finer than both, or the same, than which all such ones are finer."""
    check_two_partings(parting, other)
    return parting_by_marks(list(zip(marks_of(parting), marks_of(other))))


def parting_join(parting, other):
    """The parting that both are finer than, or the same, and that is finer than all such ones."""
    check_two_partings(parting, other)
    # What is finer has a complement that is less fine; the complement of a complement is turned back by one.
    return turned_by(complement(parting_meet(complement(parting), complement(other))), 1)


def joined(parting, former, latter):
    """The lots of a parting with two of them joined, which may cross others then."""
    return parting_by_marks([former if mark == latter else mark for mark in marks_of(parting)])


def joinings(parting):
    """The ascending list of all partings that come of a parting by joining two lots."""
    check_parting(parting)
    pairs = [(former, latter) for latter in range(len(parting)) for former in range(latter)]
    found = [joined(parting, former, latter) for former, latter in pairs]
    return ascending([lots for lots in found if not do_cross(lots)])


def split_off(parting, points):
    """A parting with some points of one of its lots taken off as a lot of their own."""
    marks = marks_of(parting)
    return parting_by_marks([-1 if point in points else marks[point] for point in range(len(marks))])


def splittings(parting):
    """The ascending list of all partings of which a parting comes by joining two lots."""
    check_parting(parting)
    found = []
    for lot in parting:
        # Of two lots that do not cross, that without the least point lies between two neighbours of the other one.
        runs = [lot[start:end] for start in range(1, len(lot)) for end in range(start + 1, len(lot) + 1)]
        found = found + [split_off(parting, run) for run in runs]
    return ascending(found)


def shorter_parts(items):
    """The ascending list of all ascending tuples of some items of an ascending tuple, or of none."""
    found = [()]
    for at in range(len(items)):
        found = found + [(items[at],) + more for more in shorter_parts(items[at + 1:])]
    return found


def lots_among(points):
    """The ascending list of all ascending tuples of lots of an ascending tuple of points, which may cross."""
    if len(points) == 0:
        return [()]
    found = []
    for more in shorter_parts(points[1:]):
        lot = points[:1] + more
        rest = tuple([point for point in points if point not in lot])
        found = found + [(lot,) + others for others in lots_among(rest)]
    return found


def partings(points):
    """The ascending list of all partings of at most 7 points."""
    if not is_within(points, LEAST_POINTS, MOST_POINTS):
        raise InvalidPoints("points must be an integer from 2 to 13")
    check_most(points, MOST_LISTED)
    return [lots for lots in lots_among(tuple(range(points))) if not do_cross(lots)]
