"""Papers on SOURCES: a FREE WAY that SHOWS one, or TABLES that show that a "load" hasn't it."""

from storeways.codes import is_place_of
from storeways.errors import NoPlace
from storeways.freeing import Search
from storeways.sources import cells_asked, sources
from storeways.tables import table_of


def source_paper(code, place, source):
    """A SOURCE PAPER of a "load" and one of its SOURCES."""
    cells = cells_asked(code, place, None)
    # Kinds are asked ahead of seeking, as Python takes True for a 1.
    if source is None or is_place_of(code, "store", source):
        for cell in cells:
            way = Search(code, cell, source).way_at(place)
            if way is not None:
                return (*way, (place, cell))
    raise NoPlace(source)


def none_paper(code, place, source):
    """A NONE PAPER of a "load" and any thing as source, None where it is one of its SOURCES."""
    cells = cells_asked(code, place, None)
    if (source is None or is_place_of(code, "store", source)) and source in sources(code, place):
        return None
    return tuple([table_of(code, cell) for cell in cells])
