"""Which "store" ROWS are DEAD: read on no FREE WAY, and seen at no end."""

from storeways.beginnings import entering
from storeways.codes import backs_of, loads_of, places_with
from storeways.faces import cells_in, is_shown
from storeways.passing import standing
from storeways.sources import read_by


def live_by(code, cell, shown, points):
    """All sources of a CELL that are read by some "load", or, where it is SHOWN, are there where main ENDS."""
    begun = entering(code, points)
    seers = loads_of(code, cell)
    if is_shown(shown, cell):
        seers.extend(backs_of(code, "main"))
    return [source for place in seers for source in read_by(place, points, begun)]


def dead_among(code, shown, points):
    """The PLACES of all DEAD "store" ROWS, rising, by what STANDS at each PLACE, CELL by CELL."""
    live = {}
    for cell in cells_in(code):
        for source in live_by(code, cell, shown, points[cell]):
            live[source] = True
    return tuple([place for place in places_with(code, "store") if place not in live])


def dead(code, shown=None):
    """The PLACES of all DEAD "store" ROWS, rising; shown are the CELLS that are SHOWN, None like all."""
    return dead_among(code, shown, {cell: standing(code, cell) for cell in cells_in(code)})
