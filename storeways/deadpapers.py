"""Papers on "store" ROWS: a FREE WAY on which one is seen, or TABLES that show that it never is."""

from storeways.codes import backs_of, is_place_of, loads_of, row_at
from storeways.errors import NoPlace
from storeways.faces import face, is_shown
from storeways.freeing import Search
from storeways.tables import table_of


def live_paper(code, place, cell, shown):
    """A LIVE PAPER of a "store" that is seen in this CELL, None where it isn't."""
    search = Search(code, cell, place)
    lasts = [(read, cell) for read in loads_of(code, cell)]
    if is_shown(shown, cell):
        lasts.extend([(back, None) for back in backs_of(code, "main")])
    for last in lasts:
        way = search.way_at(last[0])
        if way is not None:
            return (*way, last)
    return None


def live_or_dead(code, place, shown=None):
    """("live", a LIVE PAPER) or ("dead", a DEAD PAPER) of a "store"."""
    if not is_place_of(code, "store", place):
        raise NoPlace(place)
    cells = face(code, row_at(code, place)[1])
    for cell in cells:
        paper = live_paper(code, place, cell, shown)
        if paper is not None:
            return ("live", paper)
    return ("dead", tuple([table_of(code, cell) for cell in cells]))
