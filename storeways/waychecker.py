"""FREE WAYS looked at: whether a thing is one, where it leads, and what its last "load" reads."""

from storeways.codes import address_in, row_at
from storeways.errors import NoPaper
from storeways.faces import face, is_cell
from storeways.kinds import is_number, is_pair, is_word

FIRST = ("main", 0, 0)


def is_step(thing):
    """Whether any thing has the shape of a STEP, whatever CODE it is of."""
    if not is_pair(thing) or not isinstance(thing[0], tuple) or len(thing[0]) != 3:
        return False
    name, block, row = thing[0]
    return is_word(name) and is_number(block) and is_number(row)


def is_choice(code, row, thing):
    """Whether any thing is a choice of a ROW or an END; kinds are asked first, as Python takes True for a 1."""
    address = address_in(row)
    if address is not None:
        return is_cell(code, thing) and thing in face(code, address)
    if row[0] == "if":
        return is_number(thing) and thing in row[2:]
    return thing is None


def led_to(place, row, choice, calls):
    """The PLACE behind a STEP, None where it ENDS the way; calls, the open ones, a list, come to be as behind it."""
    name, block, at = place
    if row[0] == "call":
        calls.append((name, block, at + 1))
        return (row[1], 0, 0)
    if row[0] == "back":
        return calls.pop() if calls else None
    if row[0] == "go":
        return (name, row[1], 0)
    if row[0] == "if":
        return (name, choice, 0)
    return (name, block, at + 1)


def followed(code, thing):
    """Of any thing that is a FREE WAY its STATE, and of each CELL stored on it the PLACE of the last such "store"."""
    if not isinstance(thing, tuple) or not all([is_step(step) for step in thing]):
        raise NoPaper("shape", -1)
    place = FIRST
    calls = []
    last = {}
    for k, (told, choice) in enumerate(thing):
        if told != place:
            raise NoPaper("place", k)
        row = row_at(code, place)
        if not is_choice(code, row, choice):
            raise NoPaper("choice", k)
        if row[0] == "store":
            last[choice] = place
        place = led_to(place, row, choice, calls)
    return (place, tuple(calls)), last


def lets_way(code, thing):
    """Whether a FREE WAY has ENDED or is open, and the last "store" to each CELL on it, rising."""
    (place, calls), last = followed(code, thing)
    return ("ends" if place is None else "open", tuple(sorted(last.items())))


def state_of(code, thing):
    """The STATE of a FREE WAY."""
    state, last = followed(code, thing)
    return state


def shows(code, thing):
    """What a FREE WAY SHOWS whose last STEP is a "load"; that "load" itself stores nothing."""
    state, last = followed(code, thing)
    if not thing:
        raise NoPaper("load", -1)
    place, choice = thing[-1]
    if row_at(code, place)[0] != "load":
        raise NoPaper("load", -1)
    return (place, last.get(choice))
