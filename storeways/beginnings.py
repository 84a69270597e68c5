"""What may stand in a CELL where FREE WAYS enter a routine."""

from storeways.codes import places_with, routines_of, row_at
from storeways.errors import NoRoutine
from storeways.passing import put_behind, standing


def entering(code, points):
    """Of each routine what may stand in a CELL where it is entered, by what STANDS in it at each PLACE within.

    As there it is a dict of True by sources, None of it the START; {} of a routine that no FREE WAY enters.
    """
    found = {name: {} for name in routines_of(code)}
    found["main"][None] = True
    calls = places_with(code, "call")
    todo = ["main"]
    while todo:
        name = todo.pop()
        for place in [call for call in calls if call[0] == name]:
            called = row_at(code, place)[1]
            comes = list(put_behind(points[place], found[name]))
            if not all([source in found[called] for source in comes]):
                for source in comes:
                    found[called][source] = True
                todo.append(called)
    return found


def in_order(found):
    """SOURCES of a dict of them: None ahead of all, then PLACES, rising."""
    places = tuple(sorted([source for source in found if source is not None]))
    return (None, *places) if None in found else places


def begins(code, name, cell):
    """The BEGINNING of a routine and a CELL."""
    if name not in routines_of(code):
        raise NoRoutine(name)
    return in_order(entering(code, standing(code, cell))[name])
