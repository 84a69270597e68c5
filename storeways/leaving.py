"""TURNINGS that leave a "store" out."""

from storeways.codes import is_place_of
from storeways.deadpapers import live_or_dead
from storeways.errors import NoTurning


def leave(code, place, shown=None):
    """The TURNING that leaves out the "store" at a PLACE, any thing."""
    if not is_place_of(code, "store", place):
        raise NoTurning("place")
    word, paper = live_or_dead(code, place, shown)
    if word == "live":
        raise NoTurning("live")
    return ("left", place, paper)
