"""TURNINGS by which a NAME that HOLDS a CELL is taken instead of reading that again."""

from storeways.codes import names_in, sure_cell
from storeways.errors import NoTurning
from storeways.freeing import met_places
from storeways.holdchecker import held_in
from storeways.holding import hold_table, holds_at


def reread(code, place):
    """The TURNING by which the "load" at a PLACE, any thing, gives place to a NAME that HOLDS its CELL."""
    cell = sure_cell(code, "load", place)
    if cell is None:
        raise NoTurning("place")
    if place not in met_places(code):
        raise NoTurning("met")
    for name in names_in(code):
        paper = hold_table(code, name, cell)
        points, begun = held_in(paper)
        if holds_at(points, begun, place):
            return ("again", place, name, paper)
    raise NoTurning("holds")
