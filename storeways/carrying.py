"""TURNINGS that carry what a "store" gives to a "load", by a NAME of its own."""

from storeways.codes import is_new_name, names_in, sure_cell
from storeways.errors import NoTurning
from storeways.sources import sources
from storeways.tables import table_of

LETTERS = "abcdefghijklmnopqrstuvwxyz"


def word_at(number):
    """The WORD with this number, from 0 on: those of one letter, then those of two, and so on."""
    letters = []
    left = number
    while left >= 0:
        left, at = divmod(left, len(LETTERS))
        letters.append(LETTERS[at])
        left -= 1
    return "".join(letters[::-1])


def new_name(code):
    """A WORD that is no NAME of CODE: of one more WORDS than it has NAMES one is free."""
    taken = names_in(code)
    return [word_at(number) for number in range(len(taken) + 1) if word_at(number) not in taken][0]


def carry(code, place, name=None):
    """The TURNING that carries what the "load" at a PLACE, any thing, reads, by a NAME, any free one for None."""
    cell = sure_cell(code, "load", place)
    if cell is None:
        raise NoTurning("place")
    found = sources(code, place)
    if len(found) != 1 or sure_cell(code, "store", found[0]) != cell:
        raise NoTurning("sources")
    if name is not None and not is_new_name(code, name):
        raise NoTurning("name")
    return ("carried", place, new_name(code) if name is None else name, found[0], table_of(code, cell))
