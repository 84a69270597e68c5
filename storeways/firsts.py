"""FIRST READS: "load" ROWS that may read what the START has."""

from storeways.codes import places_with
from storeways.errors import NoPlace
from storeways.faces import cells_in
from storeways.passing import standing
from storeways.sourcepapers import source_paper
from storeways.sources import cells_asked, sources, sources_among


def first_reads(code):
    """The PLACES of all FIRST READS, rising."""
    points = {cell: standing(code, cell) for cell in cells_in(code)}
    found = []
    for place in places_with(code, "load"):
        if None in sources_among(code, place, cells_asked(code, place, None), points):
            found.append(place)
    return tuple(found)


def first_way(code, place):
    """A FREE WAY that SHOWS that a FIRST READ, at any thing as its PLACE, reads what the START has."""
    if None not in sources(code, place):
        raise NoPlace(place)
    return source_paper(code, place, None)
