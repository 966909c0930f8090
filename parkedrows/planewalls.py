"""Planes between fields: walls, crossings, distances and ways."""

from parkedrows.checks import all_within, has_size, is_within
from parkedrows.errors import InvalidPlane, Unlike
from parkedrows.planefields import arcs_over, check_field, middle_field, near_by_sides, sides_of


def is_plane(value, things):
    """Whether any value is a plane of so many things."""
    if not has_size(value, 3, 3) or not is_within(value[2], 0, 1):
        return False
    return all_within(value[:2], 0, things - 1) and value[0] < value[1]


def check_two_fields(field, other_field):
    """Let two fields pass that have as many things."""
    check_field(field)
    check_field(other_field)
    if len(field[0]) != len(other_field[0]):
        raise Unlike("the fields must have as many things")


def parting_planes(field, other_field):
    """The ascending list of all planes that part two fields."""
    sides = sides_of(field)
    other_sides = sides_of(other_field)
    return [plane for plane in sides if sides[plane] != other_sides[plane]]


def planes_between(field, other_field):
    """The ascending list of all planes that part two fields of as many things."""
    check_two_fields(field, other_field)
    return parting_planes(field, other_field)


def field_distance(field, other_field):
    """How many planes part two fields of as many things."""
    return len(planes_between(field, other_field))


def field_by_sides(things, sides):
    """The field that is on these sides of all planes, or None if there is none."""
    places = []
    for thing in range(things):
        ahead = [one for one in range(thing) if sides[(one, thing, 0)]]
        ahead = ahead + [other for other in range(thing + 1, things) if not sides[(thing, other, 0)]]
        places.append(len(ahead))
    if not all([place in places for place in range(things)]):
        return None
    order = tuple([places.index(place) for place in range(things)])
    field = (order, arcs_over(order, near_by_sides(sides)))
    return field if sides_of(field) == sides else None


def field_behind(things, sides, plane):
    """The field that is parted by this plane alone from the one on these sides, or None if there is none."""
    return field_by_sides(things, {own: sides[own] != (own == plane) for own in sides})


def walls_of(field):
    """The ascending list of all walls of a field."""
    check_field(field)
    sides = sides_of(field)
    return [plane for plane in sides if field_behind(len(field[0]), sides, plane) is not None]


def floors_of(field):
    """The ascending list of the walls that part a field from the middle field."""
    walls = walls_of(field)
    between = parting_planes(field, middle_field(len(field[0])))
    return [plane for plane in walls if plane in between]


def ceilings_of(field):
    """The ascending list of the walls that do not part a field from the middle field."""
    walls = walls_of(field)
    between = parting_planes(field, middle_field(len(field[0])))
    return [plane for plane in walls if plane not in between]


def plane_crossed(field, plane):
    """The field behind a wall of a field."""
    check_field(field)
    if not is_plane(plane, len(field[0])):
        raise InvalidPlane("the plane must be a plane of as many things")
    behind = field_behind(len(field[0]), sides_of(field), plane)
    if behind is None:
        raise InvalidPlane("the plane must be a wall of the field")
    return behind


def first_crossing(field, planes):
    """The pair of the first one of some planes, one of which at least is a wall, and of the field behind it."""
    sides = sides_of(field)
    at = 0
    behind = field_behind(len(field[0]), sides, planes[at])
    while behind is None:
        at = at + 1
        behind = field_behind(len(field[0]), sides, planes[at])
    return (planes[at], behind)


def plane_way(field, other_field):
    """A tuple of planes whose crossings lead from a field to another one, as few as can be."""
    check_two_fields(field, other_field)
    way = ()
    here = field
    while here != other_field:
        # Of the planes between two fields one at least is a wall of the first one.
        plane, here = first_crossing(here, parting_planes(here, other_field))
        way = way + (plane,)
    return way
