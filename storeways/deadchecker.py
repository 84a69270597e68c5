"""LIVE PAPERS and DEAD PAPERS looked at."""

from storeways.codes import backs_of, is_place_of, loads_of, row_at
from storeways.errors import NoPaper, NoPlace
from storeways.faces import face, is_shown
from storeways.sources import read_by
from storeways.tablechecker import begun_in, look_at_many, look_at_table, points_in
from storeways.waychecker import lets_way


def lets_live(code, place, shown, thing):
    """The word "read" or "end", by where the "store" is seen, where any thing is a LIVE PAPER of place."""
    word, last = lets_way(code, thing)
    if not is_place_of(code, "store", place):
        raise NoPaper("place", -1)
    seen = [cell for cell, store in last if store == place]
    if word == "ends":
        if any([is_shown(shown, cell) for cell in seen]):
            return "end"
    elif thing and row_at(code, thing[-1][0])[0] == "load" and thing[-1][1] in seen:
        return "read"
    raise NoPaper("live", -1)


def look_unseen(code, place, cell, shown, table):
    """Refuses a TABLE by which a "store" is read in this CELL, or stands in it, SHOWN, where main ENDS."""
    points = points_in(table)
    begun = begun_in(table)
    for read in loads_of(code, cell):
        if place in read_by(read, points, begun):
            raise NoPaper("read", read)
    if is_shown(shown, cell):
        for back in backs_of(code, "main"):
            if place in points[back]:
                raise NoPaper("end", back)


def lets_dead(code, place, shown, thing):
    """True, where any thing is a DEAD PAPER of a "store"."""
    if not is_place_of(code, "store", place):
        raise NoPlace(place)
    cells = face(code, row_at(code, place)[1])
    look_at_many(thing, cells)
    for k, (cell, table) in enumerate(zip(cells, thing)):
        look_at_table(code, cell, table, k)
        look_unseen(code, place, cell, shown, table)
    return True
