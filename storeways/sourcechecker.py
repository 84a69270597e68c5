"""SOURCE PAPERS and NONE PAPERS looked at."""

from storeways.codes import is_place
from storeways.errors import NoPaper
from storeways.sources import cells_asked, read_by
from storeways.tablechecker import begun_in, look_at_many, look_at_table, points_in
from storeways.waychecker import shows


def can_be_source(code, thing):
    """Whether any thing can be a source of CODE; asked ahead of comparing, as Python takes True for a 1."""
    return thing is None or is_place(code, thing)


def lets_source(code, place, source, thing):
    """The CELL that the last STEP chose, where any thing is a SOURCE PAPER of place and source."""
    read, shown = shows(code, thing)
    if not is_place(code, place) or place != read:
        raise NoPaper("read", -1)
    if not can_be_source(code, source) or source != shown:
        raise NoPaper("source", -1)
    return thing[-1][1]


def lets_none(code, place, source, thing):
    """True, where any thing is a NONE PAPER of a "load" and source."""
    cells = cells_asked(code, place, None)
    look_at_many(thing, cells)
    for k, (cell, table) in enumerate(zip(cells, thing)):
        look_at_table(code, cell, table, k)
        if can_be_source(code, source) and source in read_by(place, points_in(table), begun_in(table)):
            raise NoPaper("source", k)
    return True
