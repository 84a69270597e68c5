"""HOLD TABLES: where a NAME HOLDS a CELL on all FREE WAYS.

points are here a dict of (met, kept, found) by PLACE, begun one of truths by routine.
"""

from storeways.codes import backs_of, places_in, places_with, routines_of, row_at
from storeways.faces import face
from storeways.freeing import met_places
from storeways.graphs import onwards


def holds_behind(code, row, name, cell, ahead):
    """Whether the NAME HOLDS the CELL behind a ROW that is no "call", or an END, by whether it does ahead."""
    if row[0] in ("load", "set") and row[1] == name:
        return row[0] == "load" and face(code, row[2]) == (cell,)
    if row[0] == "store" and cell in face(code, row[1]):
        return False
    return ahead


def held_behind_call(code, routine, points, ahead):
    """What comes of each truth ahead of a "call" behind it, [] where it doesn't come back."""
    backs = [points[back] for back in backs_of(code, routine) if points[back][0]]
    back_kept = all([kept for met, kept, found in backs])
    back_found = all([found for met, kept, found in backs])
    return [back_kept if truth else back_found for truth in ahead] if backs else []


def flows(code, name, cell, points, place):
    """What comes from a met PLACE to each one of its routine to which it goes on: (PLACE, kept, found)."""
    row = row_at(code, place)
    ahead = points[place][1:]
    if row[0] == "call":
        behind = held_behind_call(code, row[1], points, ahead)
    else:
        behind = [holds_behind(code, row, name, cell, truth) for truth in ahead]
    return [(goal, *behind) for goal in onwards(code, place)] if behind else []


def holds_at(points, begun, place):
    """Whether by a HOLD TABLE the NAME HOLDS the CELL at a PLACE."""
    met, kept, found = points[place]
    return kept if begun[place[0]] else found


def settled_points(code, name, cell):
    """The points with the fewest met, and of those with the most truths: none is taken back but where one has to be."""
    firsts = [(routine, 0, 0) for routine in routines_of(code)]
    points = {place: (False, True, True) for place in places_in(code)}
    met_ones = met_places(code)
    for place in met_ones:
        points[place] = (True, True, place not in firsts)
    changed = True
    while changed:
        changed = False
        for place in met_ones:
            for goal, comes_kept, comes_found in flows(code, name, cell, points, place):
                met, kept, found = points[goal]
                points[goal] = (met, kept and comes_kept, found and comes_found)
                changed = changed or points[goal] != (met, kept, found)
    return points


def settled_begun(code, points):
    """The most truths of begins by these points."""
    begun = {routine: routine != "main" for routine in routines_of(code)}
    changed = True
    while changed:
        changed = False
        # One that isn't met takes nothing back: it has kept and found True.
        for place in places_with(code, "call"):
            called = row_at(code, place)[1]
            if begun[called] and not holds_at(points, begun, place):
                begun[called] = False
                changed = True
    return begun


def hold_table(code, name, cell):
    """The CLOSED HOLD TABLE of a NAME and a CELL with the fewest met, and of those with the most other truths."""
    points = settled_points(code, name, cell)
    begun = settled_begun(code, points)
    return (tuple([(place, *points[place]) for place in places_in(code)]),
            tuple([(routine, begun[routine]) for routine in routines_of(code)]))
