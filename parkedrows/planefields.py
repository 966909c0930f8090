"""Fields between slanted planes: orders of things with arcs, and the points that lie in them."""

from math import gcd, lcm

from parkedrows.checks import (MOST_CARS, all_within, check_cars, check_most, check_number, has_size, is_ascending,
                               is_order, is_within, power)
from parkedrows.errors import InvalidField, InvalidPoint
from parkedrows.rowlists import check_many_cars, many_parked

MOST_LISTED = 4
MOST_TOP = 10 ** 6
MOST_BELOW = 1000
MOST_REMAINDERS = 10 ** 30
# The parts of 1 by which the numbers of a point are told: more than two for each thing are enough for any field.
PARTS = 60


def is_field(value):
    """Whether any value is a field of 1 to 12 things."""
    if not has_size(value, 2, 2) or not has_size(value[0], 1, MOST_CARS):
        return False
    order, arcs = value
    if not is_order(order, len(order)) or not has_size(arcs, 0, len(order) - 1):
        return False
    if not all([is_arc(order, arc) for arc in arcs]):
        return False
    return is_ascending([first for first, _ in arcs]) and is_ascending([last for _, last in arcs])


def is_arc(order, value):
    """Whether any value is an arc over an order of things."""
    if not has_size(value, 2, 2) or not all_within(value, 0, len(order) - 1):
        return False
    first, last = value
    return first < last and order[first] < order[last]


def check_field(field):
    """Let a field pass."""
    if not is_field(field):
        raise InvalidField("the field must be a field of 1 to 12 things")


def pairs_of_things(things):
    """The ascending list of the pairs (lesser, greater) of so many things."""
    return [(one, other) for one in range(things) for other in range(one + 1, things)]


def reaches(field):
    """For each place, the list of the last place that lies within an arc with it, or itself."""
    order, arcs = field
    lasts = list(range(len(order)))
    for first, last in arcs:
        # Later arcs reach farther.
        for place in range(first, last):
            lasts[place] = last
    return lasts


def sides_of(field):
    """For each plane, in ascending order, the dict of whether the field is above it."""
    order, _ = field
    lasts = reaches(field)
    sides = {}
    for one, other in pairs_of_things(len(order)):
        place, behind = order.index(one), order.index(other)
        sides[(one, other, 0)] = place < behind
        sides[(one, other, 1)] = lasts[place] < behind
    return sides


def near_by_sides(sides):
    """The dict with each pair of near things, by the sides of all planes."""
    return {(one, other): True for one, other, level in sides
            if level == 0 and sides[(one, other, 0)] and not sides[(one, other, 1)]}


def arcs_over(order, near):
    """The ascending tuple of the arcs that reach over the near things, and over no others that are far."""
    arcs = ()
    end = 0
    for first in range(len(order)):
        lasts = [last for last in range(first + 1, len(order)) if (order[first], order[last]) in near]
        if len(lasts) > 0 and lasts[-1] > end:
            end = lasts[-1]
            arcs = arcs + ((first, end),)
    return arcs


def middle_field(things):
    """The field of so many things in which all are near."""
    check_cars(things)
    arcs = ((0, things - 1),) if things > 1 else ()
    return (tuple(range(things)), arcs)


def is_point(value):
    """Whether any value is a point of 1 to 12 things, perhaps on some planes."""
    return has_size(value, 1, MOST_CARS) and all([is_fraction(item) for item in value])


def is_fraction(value):
    """Whether any value is a fraction in its lowest terms, within the bounds of points."""
    if not has_size(value, 2, 2):
        return False
    top, below = value
    return is_within(top, -MOST_TOP, MOST_TOP) and is_within(below, 1, MOST_BELOW) and gcd(top, below) == 1


def field_of(point):
    """The field in which a point is that is on no plane."""
    if not is_point(point):
        raise InvalidPoint("the point must be a tuple of fractions in their lowest terms")
    unit = 1
    for _, below in point:
        unit = lcm(unit, below)
    numbers = [top * (unit // below) for top, below in point]
    gaps = {(one, other): numbers[one] - numbers[other] for one, other in pairs_of_things(len(numbers))}
    if any([gap in (0, unit) for gap in gaps.values()]):
        raise InvalidPoint("the point must be on no plane")
    falling = sorted([int(number) for number in numbers], reverse=True)
    order = tuple([numbers.index(number) for number in falling])
    near = {pair: True for pair in gaps if 0 < gaps[pair] < unit}
    return (order, arcs_over(order, near))


def deepened(depths, lasts):
    """How deep, in parts, all places lie, each made so deep as the others ask for as they lie."""
    deeper = list(depths)
    for place, behind in pairs_of_things(len(depths)):
        least = 1 if behind <= lasts[place] else PARTS + 1
        if deeper[behind] < deeper[place] + least:
            deeper[behind] = deeper[place] + least
        if behind <= lasts[place] and deeper[place] <= deeper[behind] - PARTS:
            deeper[place] = deeper[behind] - PARTS + 1
    return deeper


def point_in(field):
    """A point in a field."""
    check_field(field)
    order, _ = field
    lasts = reaches(field)
    depths = [0 for _ in order]
    deeper = deepened(depths, lasts)
    while deeper != depths:
        depths = deeper
        deeper = deepened(depths, lasts)
    numbers = [-depths[order.index(thing)] for thing in range(len(order))]
    return tuple([(number // gcd(number, PARTS), PARTS // gcd(number, PARTS)) for number in numbers])


def near_things(field):
    """The ascending list of the pairs (lesser, greater) of all near things."""
    check_field(field)
    return list(near_by_sides(sides_of(field)))


def far_things(field):
    """The ascending list of the pairs (lesser, greater) of all far things."""
    check_field(field)
    sides = sides_of(field)
    return [(one, other) for one, other, level in sides if level == 1 and sides[(one, other, 1)]]


def is_closed_field(field):
    """Whether each two neighbouring places lie within an arc."""
    check_field(field)
    lasts = reaches(field)
    return all([place < lasts[place] for place in range(len(lasts) - 1)])


def fields_with(order, arcs):
    """The ascending list of all fields with this order, whose arcs begin with these."""
    fields = [(order, arcs)]
    for first, last in pairs_of_things(len(order)):
        is_behind = len(arcs) == 0 or (arcs[-1][0] < first and arcs[-1][1] < last)
        if is_behind and order[first] < order[last]:
            fields = fields + fields_with(order, arcs + ((first, last),))
    return fields


def all_fields(things):
    """The ascending list of all fields of at most 4 things."""
    check_cars(things)
    check_most(things, MOST_LISTED)
    orders = [()]
    for _ in range(things):
        orders = [order + (thing,) for order in orders for thing in range(things) if thing not in order]
    return [field for order in orders for field in fields_with(order, ())]


def count_fields(many):
    """How many fields of 1 to 60 things there are."""
    check_many_cars(many)
    return many_parked(many)


def count_closed_fields(many):
    """How many closed fields of 1 to 60 things there are."""
    check_many_cars(many)
    return power(many - 1, many - 1)


def count_off_planes(things, number):
    """How many tuples of remainders by a number, one for each thing, are on no plane."""
    check_cars(things)
    check_number(number, 1, MOST_REMAINDERS)
    if number < things:
        return 0
    return number * power(number - things, things - 1)
