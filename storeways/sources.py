"""SOURCES: which "store" ROWS a "load" may read, reckoned point by point."""

from storeways.beginnings import entering, in_order
from storeways.codes import is_place_of, row_at
from storeways.errors import NoPlace
from storeways.faces import face
from storeways.passing import put_behind, standing


def cells_asked(code, place, cell):
    """Of a "load" at any thing as its PLACE the CELLS of its FACE that are asked for: one, or all for None."""
    if not is_place_of(code, "load", place):
        raise NoPlace(place)
    return [one for one in face(code, row_at(code, place)[2]) if cell is None or one == cell]


def read_by(place, points, begun):
    """What may be read at a PLACE, by what STANDS at each PLACE and what may stand where routines are entered."""
    entered = begun[place[0]]
    return put_behind(points[place], entered) if entered else {}


def sources_among(code, place, cells, points):
    """The SOURCES of a "load" and these CELLS together, by what STANDS at each PLACE, CELL by CELL."""
    found = {}
    for cell in cells:
        for source in read_by(place, points[cell], entering(code, points[cell])):
            found[source] = True
    return in_order(found)


def sources(code, place, cell=None):
    """The SOURCES of a "load" and a CELL, of all CELLS of its FACE together for None."""
    cells = cells_asked(code, place, cell)
    return sources_among(code, place, cells, {one: standing(code, one) for one in cells})
