"""TURNINGS and CHAINS looked at."""

from storeways.codes import begins_with_word, is_new_name, is_place_of, names_in, sure_cell
from storeways.deadchecker import lets_dead
from storeways.errors import NoPaper
from storeways.holdchecker import held_in, lets_holds
from storeways.holding import holds_at
from storeways.sources import read_by
from storeways.tablechecker import begun_in, look_at_table, points_in
from storeways.turnings import turned

# How many things a TURNING of each word has.
SIZES = {
    "left": 3,
    "carried": 5,
    "again": 4,
}


def look_at_left(code, shown, thing):
    """Refuses a "left" whose paper doesn't show it."""
    word, place, paper = thing
    if not is_place_of(code, "store", place):
        raise NoPaper("place", -1)
    lets_dead(code, place, shown, paper)


def cell_carried(code, place):
    """The one CELL of the "load" that gives place."""
    cell = sure_cell(code, "load", place)
    if cell is None:
        raise NoPaper("place", -1)
    return cell


def look_at_carried(code, thing):
    """Refuses a "carried" whose paper doesn't show it."""
    word, place, name, store, paper = thing
    cell = cell_carried(code, place)
    if sure_cell(code, "store", store) != cell:
        raise NoPaper("store", -1)
    if not is_new_name(code, name):
        raise NoPaper("name", -1)
    look_at_table(code, cell, paper, -1)
    if any([source != store for source in read_by(place, points_in(paper), begun_in(paper))]):
        raise NoPaper("source", -1)


def look_at_again(code, thing):
    """Refuses an "again" whose paper doesn't show it."""
    word, place, name, paper = thing
    cell = cell_carried(code, place)
    if name not in names_in(code):
        raise NoPaper("name", -1)
    lets_holds(code, name, cell, paper)
    points, begun = held_in(paper)
    if not holds_at(points, begun, place):
        raise NoPaper("holds", -1)


def lets_turning(code, shown, thing):
    """The CODE that any thing TURNS, where it is a TURNING whose paper shows it."""
    if not begins_with_word(thing) or SIZES.get(thing[0]) != len(thing):
        raise NoPaper("shape", -1)
    if thing[0] == "left":
        look_at_left(code, shown, thing)
    elif thing[0] == "carried":
        look_at_carried(code, thing)
    else:
        look_at_again(code, thing)
    return turned(code, thing)


def lets_chain(code, shown, thing):
    """The CODE behind all TURNINGS of any thing, where it is a CHAIN."""
    if not isinstance(thing, tuple):
        raise NoPaper("shape", -1)
    newer = code
    for k, turning in enumerate(thing):
        try:
            newer = lets_turning(newer, shown, turning)
        except NoPaper:
            raise NoPaper("turning", k) from None
    return newer
