"""What a CELL is MADE by at a PLACE on the WAYS WITHIN its routine, and whether it PASSES.

What STANDS in a CELL is a dict of True by sources: the PLACES of "store" ROWS, and None where it PASSES. So where no
WAY WITHIN leads nothing STANDS.
"""

from storeways.codes import backs_of, is_place, places_in, places_with, routines_of, row_at
from storeways.errors import NoPlace
from storeways.faces import face, is_sure
from storeways.graphs import onwards


def put_behind(stands, ahead):
    """What STANDS behind ways on which this STANDS, by what STOOD ahead of them: that, too, where it PASSES."""
    found = {source: True for source in stands if source is not None}
    if None in stands:
        for source in ahead:
            found[source] = True
    return found


def through(code, name, points):
    """What STANDS at all "back" ENDS of a routine together, by what STANDS at each PLACE."""
    return {source: True for place in backs_of(code, name) for source in points[place]}


def behind(code, place, cell, points):
    """What STANDS in a CELL behind a PLACE at which something STANDS, by what STANDS at each PLACE."""
    row = row_at(code, place)
    if row[0] == "call":
        return put_behind(through(code, row[1], points), points[place])
    if row[0] != "store" or cell not in face(code, row[1]):
        return points[place]
    return put_behind({place: True} if is_sure(code, row[1]) else {place: True, None: True}, points[place])


def calls_by_routine(code):
    """Of each routine the PLACES of the "call" ROWS of it."""
    calls = {name: [] for name in routines_of(code)}
    for place in places_with(code, "call"):
        calls[row_at(code, place)[1]].append(place)
    return calls


def standing_of(code, cell, names, known):
    """What STANDS in a CELL at each PLACE, of these routines reckoned anew: the least by the steps from each one on.

    known has what STANDS at the PLACES of other routines, of those that these call at least.
    """
    points = {place: known[place] for place in known}
    for place in places_in(code):
        if place[0] in names:
            points[place] = {}
    calls = calls_by_routine(code)
    todo = [(name, 0, 0) for name in names]
    for place in todo:
        points[place][None] = True
    while todo:
        place = todo.pop()
        comes = list(behind(code, place, cell, points))
        for goal in onwards(code, place):
            if not all([source in points[goal] for source in comes]):
                for source in comes:
                    points[goal][source] = True
                todo.append(goal)
        # A "back" goes on to nothing in its own routine, but each "call" of this has more behind it now.
        if row_at(code, place) == ("back",):
            todo.extend([call for call in calls[place[0]] if call[0] in names and points[call]])
    return points


def standing(code, cell):
    """What STANDS in a CELL at each PLACE of CODE."""
    return standing_of(code, cell, routines_of(code), {})


def told_apart(stands):
    """(made, passes) of what STANDS in a CELL."""
    return (tuple(sorted([source for source in stands if source is not None])), None in stands)


def made_at(code, place, cell):
    """What a CELL is MADE by at a PLACE of CODE, and whether it PASSES."""
    if not is_place(code, place):
        raise NoPlace(place)
    return told_apart(standing(code, cell)[place])


def summary(code, name, cell):
    """The SUMMARY of a routine and a CELL."""
    return told_apart(through(code, name, standing(code, cell)))
