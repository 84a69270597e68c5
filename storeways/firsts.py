"""FIRST READS: "load" ROWS that may read what the START has."""

from storeways.codes import is_place, places_with
from storeways.errors import NoPlace
from storeways.sourcepapers import source_paper
from storeways.sources import sources


def first_reads(code):
    """The PLACES of all FIRST READS, rising."""
    return tuple([place for place in places_with(code, "load") if None in sources(code, place)])


def first_way(code, place):
    """A FREE WAY that SHOWS that a FIRST READ reads what the START has."""
    if not is_place(code, place) or place not in first_reads(code):
        raise NoPlace(place)
    return source_paper(code, place, None)
