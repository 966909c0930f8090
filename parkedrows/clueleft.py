"""What clues leave of wishes, of spots and of displacements, and which clues clash."""

from parkedrows.checks import check_most, pairs_among
from parkedrows.cluecounts import check_counted, parkings, parkings_now
from parkedrows.clues import do_moves_keep

MOST_CLASHING = 8


def moves_that_can(cars, clues):
    """The ascending list of the displacements of all rows that keep clues."""
    # For each number of taken spots, what the cars on them can have moved: the sum of 2 to the power of each of these.
    reached = {0: 1}
    for own in parkings(cars, clues):
        further = {}
        for taken in reached:
            for wish, spot in parkings_now(own, taken):
                behind = taken | (1 << spot)
                further[behind] = further.get(behind, 0) | (reached[taken] << (spot - wish))
        reached = further
    found = reached.get((1 << cars) - 1, 0)
    return [moves for moves in range(pairs_among(cars) + 1)
            if (found >> moves) & 1 == 1 and do_moves_keep(clues, moves)]


def do_go_together(cars, clues):
    """Whether some row keeps all clues."""
    return len(moves_that_can(cars, clues)) > 0


def numbers_left(cars, clues, word):
    """The tuple of what clues leave each car of what a word tells, or None if no row keeps them."""
    if not do_go_together(cars, clues):
        return None
    return tuple([tuple([number for number in range(cars)
                         if do_go_together(cars, clues + ((word, car, number, number),))]) for car in range(cars)])


def wishes_left(cars, clues):
    """The tuple, for each of at most 9 cars, of the wishes that it has in rows that keep clues, or None."""
    check_counted(cars, clues)
    return numbers_left(cars, clues, "wish")


def spots_left(cars, clues):
    """The tuple, for each of at most 9 cars, of the spots that it has in rows that keep clues, or None."""
    check_counted(cars, clues)
    return numbers_left(cars, clues, "spot")


def moves_left(cars, clues):
    """The pair of the least and the greatest displacement of rows of at most 9 cars that keep clues, or None."""
    check_counted(cars, clues)
    moves = moves_that_can(cars, clues)
    return (moves[0], moves[-1]) if len(moves) > 0 else None


def picks_of(many, size):
    """The ascending list of all ascending tuples of so many of the indices from 0 to less than many."""
    found = [()]
    for at in range(size):
        found = [some + (index,) for some in found for index in range(some[-1] + 1 if at > 0 else 0, many)]
    return found


def clue_clash(cars, clues):
    """The first of the tuples of as few indices as possible of at most 8 clues that no row keeps, or None."""
    check_counted(cars, clues)
    check_most(len(clues), MOST_CLASHING)
    if do_go_together(cars, clues):
        return None
    size = 1
    clashes = []
    while len(clashes) == 0:
        clashes = [some for some in picks_of(len(clues), size)
                   if not do_go_together(cars, tuple([clues[index] for index in some]))]
        size = size + 1
    return clashes[0]
