"""Things taken out of sound tables and put in, and the tables closed up behind them."""

from parkedrows.checks import check_most, is_within
from parkedrows.errors import InvalidThing
from parkedrows.soundtables import check_sound
from parkedrows.tablefills import check_homes, check_place, filled_places, next_free, things_there


def check_there(homes, thing):
    """Let a thing pass that is there."""
    if not is_within(thing, 0, len(homes) - 1) or homes[thing] is None:
        raise InvalidThing("the thing must be there")


def check_coming(places, homes, thing, home):
    """Let a thing pass that is not there, a home for it, and no more things than may be there."""
    if not is_within(thing, 0, len(homes) - 1) or homes[thing] is not None:
        raise InvalidThing("the thing must be one that is not there")
    check_place(home, places)
    check_most(len(things_there(homes)) + 1, places - 1)


def homes_changed(homes, thing, home):
    """Homes in which a thing has another home, or None."""
    return homes[:thing] + (home,) + homes[thing + 1:]


def homes_without(places, homes, thing):
    """The homes in which a thing is not there."""
    check_homes(places, homes)
    check_there(homes, thing)
    return homes_changed(homes, thing, None)


def freed_place(places, homes, thing):
    """The place that is filled by homes, and not without a thing."""
    left = filled_places(places, homes_without(places, homes, thing))
    return [place for place in filled_places(places, homes) if place not in left][0]


def closed_up(places, homes, table, thing):
    """A sound table of homes, closed up behind a thing that is taken out."""
    check_sound(places, homes, table)
    check_there(homes, thing)
    after = list(table)
    gap = table.index(thing)
    after[gap] = None
    place = (gap + 1) % places
    while table[place] is not None:
        # It can go into the gap if its home is not one of the places behind it, up to its own.
        if not 1 <= (homes[table[place]] - gap) % places <= (place - gap) % places:
            after[gap] = table[place]
            after[place] = None
            gap = place
        place = (place + 1) % places
    return tuple(after)


def homes_with(places, homes, thing, home):
    """The homes in which a thing that is not there has a home."""
    check_homes(places, homes)
    check_coming(places, homes, thing, home)
    return homes_changed(homes, thing, home)


def put_in(places, homes, table, thing, home):
    """A sound table of homes, with a thing that is not there in the next free place from a home on."""
    check_sound(places, homes, table)
    check_coming(places, homes, thing, home)
    place = next_free(table, home)
    return table[:place] + (thing,) + table[place + 1:]
