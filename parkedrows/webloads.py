"""Loads of grains on webs, on which not each two corners are tied."""

from parkedrows.checks import all_within, check_most, check_number, has_size, is_within, pairs_among
from parkedrows.errors import InvalidLoad, InvalidWeb

MOST_CORNERS = 6
MOST_LISTED = 5
MOST_GRAINS = 30


def is_web(value):
    """Whether any value is a web of 1 to 6 corners."""
    if not has_size(value, 2, 2) or not is_within(value[0], 1, MOST_CORNERS):
        return False
    corners, ties = value
    if not has_size(ties, corners, pairs_among(corners + 1)) or not all([is_tie(tie, corners) for tie in ties]):
        return False
    return list(ties) == [tie for tie in all_ties(corners) if tie in ties] and does_hang_together(value)


def is_tie(value, corners):
    """Whether any value ties two of so many corners, or one and the root, the lesser one told first."""
    return has_size(value, 2, 2) and all_within(value, 0, corners) and value[0] < value[1]


def all_ties(corners):
    """The ascending list of all ties between so many corners and the root."""
    return [(one, other) for one in range(corners) for other in range(one + 1, corners + 1)]


def does_hang_together(web):
    """Whether one comes from the root along ties to each corner."""
    met = [0]
    for _ in range(web[0]):
        met = met + [corner for corner in range(1, web[0] + 1) if corner not in met
                     and any([other in met for other in neighbours(web, corner)])]
    return len(met) == web[0] + 1


def neighbours(web, corner):
    """The ascending list of all that are tied with a corner, or with the root."""
    _, ties = web
    return [one for one, other in ties if other == corner] + [other for one, other in ties if one == corner]


def check_web(web):
    """Let a web pass."""
    if not is_web(web):
        raise InvalidWeb("the web must be a web of 1 to 6 corners")


def check_web_load(web, load):
    """Let a web and a load of it pass."""
    check_web(web)
    if not has_size(load, web[0], web[0]) or not all_within(load, 0, MOST_GRAINS):
        raise InvalidLoad("the load must be a load of the web")


def full_web(corners):
    """The web of 1 to 6 corners with all ties."""
    check_number(corners, 1, MOST_CORNERS)
    return (corners, tuple(all_ties(corners)))


def high_on_web(web, grains):
    """The ascending list of all corners that have at least as many grains as neighbours."""
    return [corner for corner in range(1, web[0] + 1) if grains[corner - 1] >= len(neighbours(web, corner))]


def spill_on_web(web, grains, corner, times):
    """The list of the grains behind so many spillings of a corner."""
    near = neighbours(web, corner)
    spread = [grains[at] + times if at + 1 in near else grains[at] for at in range(web[0])]
    spread[corner - 1] = grains[corner - 1] - times * len(near)
    return spread


def settle_on_web(web, load):
    """The pair of what comes of settling a load, and of how often each corner spills."""
    left = list(load)
    spills = [0 for _ in load]
    high = high_on_web(web, left)
    while len(high) > 0:
        # One after another, each as often as it can: the order does not matter.
        for corner in high:
            times = left[corner - 1] // len(neighbours(web, corner))
            left = spill_on_web(web, left, corner, times)
            spills[corner - 1] = spills[corner - 1] + times
        high = high_on_web(web, left)
    return (tuple(left), tuple(spills))


def do_all_burn(web, load):
    """Whether all corners burn, round by round, from the root on."""
    unburnt = list(range(1, web[0] + 1))
    for _ in load:
        unburnt = [corner for corner in unburnt
                   if load[corner - 1] < len([other for other in neighbours(web, corner) if other in unburnt])]
    return len(unburnt) == 0


def is_again_on_web(web, load):
    """Whether a load is settled on a web, and comes again."""
    return len(high_on_web(web, load)) == 0 and do_all_burn(web, load)


def web_settled(web, load):
    """What comes of settling a load on a web."""
    check_web_load(web, load)
    left, _ = settle_on_web(web, load)
    return left


def web_spills(web, load):
    """The tuple of how often each corner spills when a load is settled on a web."""
    check_web_load(web, load)
    _, spills = settle_on_web(web, load)
    return spills


def web_comes_again(web, load):
    """Whether a load is settled on a web, and comes again."""
    check_web_load(web, load)
    return is_again_on_web(web, load)


def web_loads(web):
    """The ascending list of all loads that come again on a web of at most 5 corners."""
    check_web(web)
    check_most(web[0], MOST_LISTED)
    loads = [()]
    for corner in range(1, web[0] + 1):
        loads = [load + (grains,) for load in loads for grains in range(len(neighbours(web, corner)))]
    return [load for load in loads if do_all_burn(web, load)]


def losses(web):
    """For each corner, the list of what all corners lose when it spills; below 0 what they get."""
    unspilled = [0 for _ in range(web[0])]
    return [[-grains for grains in spill_on_web(web, unspilled, corner, 1)] for corner in range(1, web[0] + 1)]


def determinant(rows):
    """The determinant of as many lists of integers as each of them has; 1 of none."""
    if len(rows) == 0:
        return 1
    total = 0
    sign = 1
    for at in range(len(rows)):
        if rows[0][at] != 0:
            total = total + sign * rows[0][at] * determinant([row[:at] + row[at + 1:] for row in rows[1:]])
        sign = -sign
    return total


def count_web_loads(web):
    """How many loads come again on a web."""
    check_web(web)
    # Two loads lead to one another just if they differ by what spillings take, and of these one comes again.
    return determinant(losses(web))
