"""Lots of homes: the filled places next to one another, their things, and their parked rows."""

from parkedrows.checks import all_within, check_number, has_size, is_ascending, is_within
from parkedrows.errors import InvalidLots
from parkedrows.rows import is_parked
from parkedrows.tablefills import MOST_PLACES, MOST_THINGS, are_homes_in, check_places, table_of


def lots_of(places, homes):
    """The ascending list of the pairs of the first place and of the size of each lot of homes."""
    table = table_of(places, homes)
    # The place -1 is the last one, next ahead of the place 0.
    firsts = [place for place in range(places) if table[place] is not None and table[place - 1] is None]
    return [(first, (table[first:] + table[:first]).index(None)) for first in firsts]


def things_on(table, place, size):
    """The list of the things that lie in so many places from a place on, as they lie there."""
    return [table[(place + at) % len(table)] for at in range(size)]


def lot_rows(places, homes):
    """The ascending list of the triples of the first place, the things and the row of each lot of homes."""
    table = table_of(places, homes)
    triples = []
    for place, size in lots_of(places, homes):
        things = sorted([int(thing) for thing in things_on(table, place, size)])
        triples.append((place, tuple(things), tuple([(homes[thing] - place) % places for thing in things])))
    return triples


def is_lot_row(value, places, things):
    """Whether any value is a triple of a place, of ascending things and of a parked row of as many cars."""
    if not has_size(value, 3, 3) or not is_within(value[0], 0, places - 1) or not is_parked(value[2]):
        return False
    _, own, row = value
    if not has_size(own, len(row), len(row)) or not all_within(own, 0, things - 1):
        return False
    return is_ascending(own)


def homes_of_rows(places, things, value):
    """The homes of so many things whose lots have these triples."""
    check_places(places)
    check_number(things, 0, MOST_THINGS)
    if not has_size(value, 0, MOST_PLACES) or not all([is_lot_row(item, places, things) for item in value]):
        raise InvalidLots("the lots must be triples of a place, of things and of a parked row")
    homes = [None for _ in range(things)]
    for place, own, row in value:
        for thing, wish in zip(own, row):
            homes[thing] = (place + wish) % places
    # Lots that lie too close to one another, or have a thing twice, are not those of the homes that they make.
    if not are_homes_in(places, tuple(homes)) or tuple(lot_rows(places, tuple(homes))) != value:
        raise InvalidLots("the lots must be the lots of some homes")
    return tuple(homes)
