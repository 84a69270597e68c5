"""FREE WAYS sought: how one goes on, which PLACES are MET, and shortest ways to them.

A hop is (place, choice, routine): a STEP, and, where routine is a WORD, a whole way through that routine behind it.
So a way through a routine is known once, however often and deep it is called.
"""

from storeways.codes import END_FORMS, address_in, backs_of, is_place, routines_of, row_at
from storeways.errors import NoPlace
from storeways.faces import face
from storeways.graphs import goals
from storeways.waychecker import FIRST, state_of


def choices_of(code, row):
    """All choices of a ROW or an END, rising."""
    address = address_in(row)
    if address is not None:
        return face(code, address)
    return goals(row) if row[0] == "if" else (None,)


def goes_on(code, thing):
    """All STEPS by which a FREE WAY can go on, rising."""
    place, calls = state_of(code, thing)
    if place is None:
        return ()
    return tuple([(place, choice) for choice in choices_of(code, row_at(code, place))])


def hops_of_call(place, routine, through, enters):
    """What hops_at tells of a "call"."""
    name, block, at = place
    found = []
    if routine in through:
        found.append(((name, block, at + 1), 1 + through[routine], (place, None, routine)))
    if enters:
        found.append(((routine, 0, 0), 1, (place, None, None)))
    return found


def hops_at(code, place, through, enters):
    """The hops from a PLACE, each as (PLACE to which it leads, how many STEPS it has, hop).

    through has the lengths of ways through routines; where enters is True, calls may stay open, too.
    """
    name, block, at = place
    row = row_at(code, place)
    if row[0] == "call":
        return hops_of_call(place, row[1], through, enters)
    if row[0] in END_FORMS:
        return [((name, goal, 0), 1, (place, goal if row[0] == "if" else None, None)) for goal in goals(row)]
    return [((name, block, at + 1), 1, (place, choices_of(code, row)[0], None))]


def nearest_by_hops(code, first, through, enters):
    """Of each PLACE to which hops lead from the first one: how many STEPS lead there, at least, and the last hop."""
    found = {}
    waiting = {first: (0, None)}
    while waiting:
        place = min(waiting, key=lambda other: waiting[other][0])
        found[place] = waiting.pop(place)
        for goal, many, hop in hops_at(code, place, through, enters):
            length = found[place][0] + many
            if goal not in found and (goal not in waiting or length < waiting[goal][0]):
                waiting[goal] = (length, hop)
    return found


def nearest_back(code, name, through):
    """What nearest_by_hops finds within a routine, and its "back" PLACE with the fewest STEPS, None without one."""
    found = nearest_by_hops(code, (name, 0, 0), through, False)
    lengths = [(found[place][0], place) for place in backs_of(code, name) if place in found]
    return (found, min(lengths)[1] if lengths else None)


def lengths_through(code):
    """Of each routine that comes back, how many STEPS a shortest way through it has, its "back" too."""
    through = {}
    while True:
        newer = {}
        for name in routines_of(code):
            found, back = nearest_back(code, name, through)
            if back is not None:
                newer[name] = found[back][0] + 1
        # Each round knows ways with calls one deeper in one another, and a shortest one has no routine within itself.
        if newer == through:
            return through
        through = newer


def hops_to(found, place):
    """The hops to a PLACE, from the last one of each back to the first one."""
    hops = []
    hop = found[place][1]
    while hop is not None:
        hops.append(hop)
        hop = found[hop[0]][1]
    return hops


def spelled(code, hops, through):
    """The way of hops that are told from the last one on: each STEP of it, also those through routines."""
    known = {}
    way = []
    todo = list(hops)
    while todo:
        place, choice, routine = todo.pop()
        way.append((place, choice))
        if routine is not None:
            if routine not in known:
                found, back = nearest_back(code, routine, through)
                known[routine] = [(back, None, None), *hops_to(found, back)]
            todo.extend(known[routine])
    return tuple(way)


def met_places(code):
    """All MET PLACES of CODE, rising."""
    return tuple(sorted(nearest_by_hops(code, FIRST, lengths_through(code), True)))


def way_to(code, place):
    """A shortest FREE WAY that leads to a MET PLACE."""
    through = lengths_through(code)
    found = nearest_by_hops(code, FIRST, through, True)
    if not is_place(code, place) or place not in found:
        raise NoPlace(place)
    return spelled(code, hops_to(found, place), through)
