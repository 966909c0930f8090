"""Sound tables: those that come of the same homes, the things coming in any turn."""

from parkedrows.checks import check_most, has_size, is_within
from parkedrows.errors import InvalidTable
from parkedrows.lots import lot_rows, things_on
from parkedrows.tablefills import check_homes, laid, steps_in, things_there

MOST_LISTED = 6


def are_things_there(homes, value):
    """Whether any value is a tuple of all things that are there, each once."""
    things = things_there(homes)
    if not has_size(value, len(things), len(things)):
        return False
    return all([is_within(thing, 0, len(homes) - 1) for thing in value]) and all([thing in value for thing in things])


def is_sound_for(places, homes, value):
    """Whether any value is a sound table of homes for so many places."""
    if not has_size(value, places, places):
        return False
    if not are_things_there(homes, tuple([thing for thing in value if thing is not None])):
        return False
    steps = steps_in(value, homes)
    # Each place from its home to its own must have been filled when a thing came.
    return all([None not in things_on(value, homes[thing], steps[thing]) for thing in things_there(homes)])


def check_sound(places, homes, table):
    """Let a number of places, homes for so many, and a sound table of these pass."""
    check_homes(places, homes)
    if not is_sound_for(places, homes, table):
        raise InvalidTable("the table must be a sound table of the homes")


def is_sound(places, homes, value):
    """Whether any value is a sound table of homes."""
    check_homes(places, homes)
    return is_sound_for(places, homes, value)


def things_for_places(places, homes):
    """For each place, the list of all things that lie there in some sound table."""
    fits = [[] for _ in range(places)]
    for first, things, row in lot_rows(places, homes):
        for spot in range(len(row)):
            fits[(first + spot) % places] = [thing for thing, wish in zip(things, row) if wish <= spot]
    return fits


def sound_tables(places, homes):
    """The ascending list of all sound tables of homes with at most 6 things there."""
    check_homes(places, homes)
    check_most(len(things_there(homes)), MOST_LISTED)
    tables = [()]
    for fits in things_for_places(places, homes):
        if len(fits) == 0:
            tables = [table + (None,) for table in tables]
        else:
            tables = [table + (thing,) for table in tables for thing in fits if thing not in table]
    return tables


def count_sound(places, homes):
    """How many sound tables of homes there are."""
    many = 1
    for _, _, row in lot_rows(places, homes):
        for spot in range(len(row)):
            # What can lie in a spot can lie in all those behind it, too.
            many = many * (len([wish for wish in row if wish <= spot]) - spot)
    return many


def even_table(places, homes):
    """The even table of homes."""
    rows = lot_rows(places, homes)
    table = [None for _ in range(places)]
    for first, things, row in rows:
        line = [thing for spot in range(len(row)) for thing, wish in zip(things, row) if wish == spot]
        for spot in range(len(line)):
            table[(first + spot) % places] = line[spot]
    return tuple(table)


def squares_of(places, homes, table):
    """The sum of the squares of the steps of all things in a sound table of homes."""
    check_sound(places, homes, table)
    return sum([steps * steps for steps in steps_in(table, homes) if steps is not None])


def turn_for(places, homes, table):
    """A tuple of all things that are there, in the turn of which a sound table comes."""
    check_sound(places, homes, table)
    return tuple([thing for first, things, _ in lot_rows(places, homes)
                  for thing in things_on(table, first, len(things))])


def is_turn_for(places, homes, table, value):
    """Whether any value is a tuple of all things that are there, in the turn of which a sound table comes."""
    check_sound(places, homes, table)
    return are_things_there(homes, value) and laid(places, homes, value) == table
