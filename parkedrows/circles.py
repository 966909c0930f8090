"""Ring rows: cars that park on a ring with one spot more than there are cars."""

from parkedrows.checks import MOST_CARS, all_within, check_number, has_size
from parkedrows.errors import InvalidRing

MOST_STEPS = 1000


def is_ring_row(value):
    """Whether any value is a ring row of 1 to 12 cars."""
    return has_size(value, 1, MOST_CARS) and all_within(value, 0, len(value))


def check_ring(value):
    """Let a ring row pass."""
    if not is_ring_row(value):
        raise InvalidRing("the value must be a ring row of 1 to 12 cars")


def ring_spots(value):
    """The tuple of the spots of all cars on the ring."""
    check_ring(value)
    around = len(value) + 1
    taken = [False for _ in range(around)]
    spots = []
    for wish in value:
        spot = wish
        while taken[spot]:
            spot = (spot + 1) % around
        taken[spot] = True
        spots.append(spot)
    return tuple(spots)


def ring_free(value):
    """The spot that stays free."""
    spots = ring_spots(value)
    return [spot for spot in range(len(value) + 1) if spot not in spots][0]


def ring_turned(value, steps):
    """The ring row with each wish greater by so many steps, going round."""
    check_ring(value)
    check_number(steps, -MOST_STEPS, MOST_STEPS)
    around = len(value) + 1
    return tuple([(wish + steps) % around for wish in value])


def parked_turn(value):
    """The least number of steps that turn a ring row to a parked row, and this parked row."""
    # A ring row is parked just if no car passes the last spot, that is if this spot stays free.
    free = ring_free(value)
    steps = len(value) - free
    return (steps, ring_turned(value, steps))
