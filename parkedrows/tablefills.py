"""Things laid on a ring of places, each in its home or in the next free place behind it."""

from parkedrows.checks import has_size, is_within
from parkedrows.errors import InvalidHomes, InvalidPlace, InvalidPlaces

MOST_PLACES = 12
MOST_THINGS = 12


def check_places(places):
    """Let a number of places pass that is from 1 to 12."""
    if not is_within(places, 1, MOST_PLACES):
        raise InvalidPlaces("places must be an integer from 1 to 12")


def are_homes_in(places, value):
    """Whether any value is homes for a number of places from 1 to 12."""
    if not has_size(value, 0, MOST_THINGS):
        return False
    if not all([home is None or is_within(home, 0, places - 1) for home in value]):
        return False
    return len(things_there(value)) < places


def things_there(homes):
    """The ascending list of all things that are there."""
    return [thing for thing in range(len(homes)) if homes[thing] is not None]


def check_homes(places, homes):
    """Let a number of places and homes for so many pass."""
    check_places(places)
    if not are_homes_in(places, homes):
        raise InvalidHomes("the homes must be homes for so many places")


def check_place(home, places):
    """Let one of so many places pass."""
    if not is_within(home, 0, places - 1):
        raise InvalidPlace("the home must be one of the places")


def next_free(table, home):
    """The first free place from a home on."""
    place = home
    while table[place] is not None:
        place = (place + 1) % len(table)
    return place


def laid(places, homes, turn):
    """The tuple of what lies in all places when things have come in this turn."""
    table = [None for _ in range(places)]
    for thing in turn:
        table[next_free(table, homes[thing])] = thing
    return tuple(table)


def steps_in(table, homes):
    """The tuple of how many places behind its home each thing lies, None for one that is not there."""
    return tuple([None if homes[thing] is None else (table.index(thing) - homes[thing]) % len(table)
                  for thing in range(len(homes))])


def are_homes(places, value):
    """Whether any value is homes for so many places."""
    check_places(places)
    return are_homes_in(places, value)


def is_table(value):
    """Whether any value is a table."""
    if not has_size(value, 1, MOST_PLACES):
        return False
    things = [thing for thing in value if thing is not None]
    if not all([is_within(thing, 0, len(things) - 1) for thing in things]):
        return False
    return len(things) < len(value) and all([thing in things for thing in range(len(things))])


def table_of(places, homes):
    """The tuple of the things in all places, if they come in the order of their numbers."""
    check_homes(places, homes)
    return laid(places, homes, things_there(homes))


def steps_of(places, homes):
    """The tuple of the steps of all things, None for one that is not there."""
    return steps_in(table_of(places, homes), homes)


def cost_of(places, homes):
    """The steps of all things together."""
    return sum([steps for steps in steps_of(places, homes) if steps is not None])


def filled_places(places, homes):
    """The ascending list of the filled places."""
    table = table_of(places, homes)
    return [place for place in range(places) if table[place] is not None]


def place_for(places, homes, home):
    """The place in which one thing more with this home would be laid."""
    check_homes(places, homes)
    check_place(home, places)
    return next_free(table_of(places, homes), home)
