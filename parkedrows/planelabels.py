"""Labels of fields: parked rows, there and back."""

from parkedrows.checks import MOST_CARS
from parkedrows.errors import InvalidPlane
from parkedrows.planefields import arcs_over, check_field, sides_of
from parkedrows.planewalls import is_plane
from parkedrows.rows import check_row


def label_item(plane):
    """The thing whose item of the label is greater by 1 behind a plane crossed away from the middle field."""
    if not is_plane(plane, MOST_CARS):
        raise InvalidPlane("the plane must be a plane of 12 things")
    one, other, level = plane
    return other if level == 1 else one


def field_label(field):
    """The label of a field."""
    check_field(field)
    label = [0 for _ in field[0]]
    sides = sides_of(field)
    for one, other, level in sides:
        # The middle field is above each plane of the level 0, and below each one of the level 1.
        if sides[(one, other, level)] == (level == 1):
            item = label_item((one, other, level))
            label[item] = label[item] + 1
    return tuple(label)


def field_by_label(row):
    """The field whose label a parked row is."""
    check_row(row)
    order = ()
    near = {}
    first = 0
    while len(order) < len(row):
        # Those from the place first on are near to a lesser or greater thing that comes next.
        window = order[first:]
        ready = [thing for thing in range(len(row)) if thing not in order
                 and first + len([other for other in window if other > thing]) == row[thing]]
        if len(ready) > 0:
            # The least one: each other one that comes now would make its number too great.
            for ahead in window:
                if ahead < ready[0]:
                    near[(ahead, ready[0])] = True
            order = order + (ready[0],)
        else:
            first = first + 1
    return (order, arcs_over(order, near))
