"""HOLD TABLES looked at."""

from storeways.codes import is_place, places_in, places_with, row_at
from storeways.errors import NoPaper
from storeways.holding import flows, holds_at
from storeways.kinds import is_pair
from storeways.tablechecker import look_at_kinds


def is_point(code, place, thing):
    """Whether any thing is the entry of this PLACE; kinds are asked first, as Python takes True for a 1."""
    if not isinstance(thing, tuple) or len(thing) != 4:
        return False
    return is_place(code, thing[0]) and thing[0] == place and all([isinstance(part, bool) for part in thing[1:]])


def is_begin(code, name, thing):
    """Whether any thing is the entry of this routine of CODE."""
    return is_pair(thing) and thing[0] == name and isinstance(thing[1], bool)


def is_first_as_told(points, place):
    """Whether a PLACE, where it is the first one of its routine, has met and found as they have to be there."""
    met, kept, found = points[place]
    if place[1:] != (0, 0):
        return True
    return not found if met else place[0] != "main"


def is_flow_as_told(code, name, cell, points, place):
    """Whether each PLACE to which a met one goes on has met, and no truth that doesn't come to it."""
    if not points[place][0]:
        return True
    for goal, kept, found in flows(code, name, cell, points, place):
        goal_met, goal_kept, goal_found = points[goal]
        if not goal_met or (goal_kept and not kept) or (goal_found and not found):
            return False
    return True


def is_call_as_told(code, points, begun, place):
    """Whether the routine of a "call" has met and begins as they have to be by this "call"."""
    called = row_at(code, place)[1]
    if not points[place][0]:
        return True
    return points[(called, 0, 0)][0] and (holds_at(points, begun, place) or not begun[called])


def held_in(table):
    """points and begun of a HOLD TABLE, as those are which holds_at looks at."""
    points = {entry[0]: entry[1:] for entry in table[0]}
    return (points, {routine: truth for routine, truth in table[1]})


def lets_holds(code, name, cell, thing):
    """True, where any thing is a CLOSED HOLD TABLE of a NAME and a CELL."""
    look_at_kinds(code, thing, is_point, is_begin)
    points, begun = held_in(thing)
    for place in places_in(code):
        if not is_first_as_told(points, place):
            raise NoPaper("first", place)
        if not is_flow_as_told(code, name, cell, points, place):
            raise NoPaper("flow", place)
    if begun["main"]:
        raise NoPaper("main", -1)
    for place in places_with(code, "call"):
        if not is_call_as_told(code, points, begun, place):
            raise NoPaper("call", place)
    return True
