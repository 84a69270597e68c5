"""TABLES looked at."""

from storeways.codes import is_place, places_in, places_with, routines_of, row_at
from storeways.errors import NoPaper
from storeways.graphs import onwards
from storeways.kinds import is_pair
from storeways.passing import behind
from storeways.sources import read_by


def look_at_entries(code, word, due, entries, fits):
    """Refuses the first entry that doesn't fit to the one of those due, isn't due, or is lacking."""
    for k, (one, entry) in enumerate(zip(due, entries)):
        if not fits(code, one, entry):
            raise NoPaper(word, k)
    if len(entries) != len(due):
        raise NoPaper(word, min(len(entries), len(due)))


def look_at_kinds(code, thing, fits_place, fits_routine):
    """Refuses any thing that isn't a tuple of two: of entries of all PLACES, and of entries of all routines."""
    if not is_pair(thing) or not all([isinstance(part, tuple) for part in thing]):
        raise NoPaper("shape", -1)
    look_at_entries(code, "point", places_in(code), thing[0], fits_place)
    look_at_entries(code, "begin", routines_of(code), thing[1], fits_routine)


def are_rising_places(code, thing):
    """Whether any thing is a rising tuple of PLACES of CODE; kinds are asked first, as Python takes True for a 1."""
    if not isinstance(thing, tuple) or not all([is_place(code, place) for place in thing]):
        return False
    return all([one < other for one, other in zip(thing, thing[1:])])


def is_point(code, place, thing):
    """Whether any thing is the entry of this PLACE."""
    if not isinstance(thing, tuple) or len(thing) != 3:
        return False
    told, made, passes = thing
    return is_place(code, told) and told == place and are_rising_places(code, made) and isinstance(passes, bool)


def is_begin(code, name, thing):
    """Whether any thing is the entry of this routine."""
    if not is_pair(thing) or thing[0] != name or not isinstance(thing[1], tuple):
        return False
    told = thing[1]
    return are_rising_places(code, told[1:] if told[:1] == (None,) else told)


def points_in(table):
    """What STANDS at each PLACE by a TABLE: a dict of True by sources, None of it where it PASSES."""
    return {place: {source: True for source in ((None, *made) if passes else made)} for place, made, passes in table[0]}


def begun_in(table):
    """What may stand where each routine is entered by a TABLE, likewise, None of it the START."""
    return {name: {source: True for source in told} for name, told in table[1]}


def is_flow_as_told(code, cell, points, place):
    """Whether each PLACE to which one goes on has all that comes behind it, where something STANDS there."""
    if not points[place]:
        return True
    comes = behind(code, place, cell, points)
    return all([source in points[goal] for goal in onwards(code, place) for source in comes])


def is_call_as_told(code, points, begun, place):
    """Whether the routine of a "call" begins with all that may stand at this."""
    called = begun[row_at(code, place)[1]]
    return all([source in called for source in read_by(place, points, begun)])


def lets_table(code, cell, thing):
    """True, where any thing is a CLOSED TABLE of a CELL."""
    look_at_kinds(code, thing, is_point, is_begin)
    points = points_in(thing)
    begun = begun_in(thing)
    for place in places_in(code):
        if place[1:] == (0, 0) and None not in points[place]:
            raise NoPaper("first", place)
        if not is_flow_as_told(code, cell, points, place):
            raise NoPaper("flow", place)
    if None not in begun["main"]:
        raise NoPaper("main", -1)
    for place in places_with(code, "call"):
        if not is_call_as_told(code, points, begun, place):
            raise NoPaper("call", place)
    return True


def look_at_many(thing, cells):
    """Refuses any thing that isn't a tuple of as many things as there are CELLS."""
    if not isinstance(thing, tuple) or len(thing) != len(cells):
        raise NoPaper("shape", -1)


def look_at_table(code, cell, thing, k):
    """Refuses thing k of a paper where it is no CLOSED TABLE of a CELL."""
    try:
        lets_table(code, cell, thing)
    except NoPaper:
        raise NoPaper("table", k) from None
