"""How many meshes there are by their excess, and by their ties."""

from parkedrows.checks import added, check_from_zero, check_number, is_within, multiplied
from parkedrows.rowlists import moves_of_parked

MOST_CORNERS = 16


def excess_spread(corners):
    """The spread of the excess over all meshes of 1 to 16 corners."""
    check_number(corners, 1, MOST_CORNERS)
    spread = []
    # As powers of x + 1 the displacements of all parked rows are, as powers of x, the excesses of all meshes.
    for many in moves_of_parked(corners)[corners][::-1]:
        spread = added(multiplied(spread, [1, 1]), [many])
    return tuple(spread)


def count_connected(corners, ties):
    """How many meshes of 1 to 16 corners have so many ties."""
    check_number(corners, 1, MOST_CORNERS)
    check_from_zero(ties)
    spread = excess_spread(corners)
    if not is_within(ties - corners, 0, len(spread) - 1):
        return 0
    return spread[ties - corners]
