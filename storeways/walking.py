"""SOURCES once more: reckoned by VERSIONS, by walking back from one to its PARTS.

What a WALK comes to is a dict of True by finds, the PLACES of "store" ROWS, and None where it comes to the BEGINNING.
"""

from storeways.beginnings import in_order
from storeways.codes import backs_of, is_place, places_with, routines_of, row_at
from storeways.errors import NoPlace
from storeways.faces import face
from storeways.freeing import met_places
from storeways.passing import told_apart
from storeways.sources import cells_asked
from storeways.versions import BEGIN, parts_by, version_now, versions_at_firsts, versions_of


class Memory:
    """The VERSIONS of CODE and their PARTS, by routine, and which PLACES are MET: known once for all WALKS."""

    def __init__(self, code):
        self.code = code
        self.met = {place: True for place in met_places(code)}
        self.firsts = {name: versions_at_firsts(code, name) for name in routines_of(code)}
        self.parts = {}
        for name in routines_of(code):
            firsts = self.firsts[name]
            self.parts[name] = {one: parts_by(code, name, one, firsts) for one in versions_of(code, name)}

    def now_at(self, place):
        """The VERSION that is NOW at a MET PLACE: its block is REACHED."""
        return version_now(self.code, place, self.firsts[place[0]])

    def met_among(self, places):
        """Those of these PLACES that are MET."""
        return [place for place in places if place in self.met]


def taken(memory, version, cell, through):
    """What a VERSION but ("begin",) comes to by itself, None where it gives place to its PARTS."""
    if version[0] == "merge":
        return {None: True}
    place = version[1]
    row = row_at(memory.code, place)
    if row[0] == "call":
        return through[row[1]] if place in memory.met else {}
    cells = face(memory.code, row[1])
    found = {} if cells == (cell,) else {None: True}
    if cell in cells and place in memory.met:
        found[place] = True
    return found


def walk(memory, name, versions, cell, through):
    """All that WALKS from these VERSIONS of a routine come to, by what those through routines come to."""
    found = {}
    seen = {}
    todo = list(versions)
    while todo:
        version = todo.pop()
        if version in seen:
            continue
        seen[version] = True
        comes = {None: True} if version == BEGIN else taken(memory, version, cell, through)
        for source in comes:
            if source is not None or version == BEGIN:
                found[source] = True
        if None in comes:
            todo.extend(memory.parts[name][version])
    return found


def walks_through(memory, cell):
    """Of each routine all that WALKS from its MET "back" ENDS come to: {} of one that never comes back."""
    through = {name: {} for name in routines_of(memory.code)}
    changed = True
    # Of routines that call one another each may come to more by what another one has come to since.
    while changed:
        changed = False
        for name in routines_of(memory.code):
            backs = memory.met_among(backs_of(memory.code, name))
            found = walk(memory, name, [memory.now_at(back) for back in backs], cell, through)
            changed = changed or found != through[name]
            through[name] = found
    return through


def walked(code, place, cell):
    """(finds, begins) of the WALK for a CELL from what is NOW at a MET PLACE."""
    memory = Memory(code)
    if not is_place(code, place) or place not in memory.met:
        raise NoPlace(place)
    return told_apart(walk(memory, place[0], [memory.now_at(place)], cell, walks_through(memory, cell)))


def walked_beyond(memory, place, cell):
    """All SOURCES that are come to from what is NOW at a PLACE, through BEGINNINGS of routines to those of main."""
    through = walks_through(memory, cell)
    calls = memory.met_among(places_with(memory.code, "call"))
    found = {}
    seen = {}
    todo = [place]
    while todo:
        here = todo.pop()
        name = here[0]
        comes = walk(memory, name, [memory.now_at(here)], cell, through)
        for source in comes:
            if source is not None or name == "main":
                found[source] = True
        if None in comes and name not in seen:
            seen[name] = True
            todo.extend([call for call in calls if row_at(memory.code, call)[1] == name])
    return found


def walked_sources(code, place, cell=None):
    """The SOURCES of a "load" and a CELL, of all CELLS of its FACE together for None, by WALKS."""
    cells = cells_asked(code, place, cell)
    memory = Memory(code)
    if place not in memory.met:
        return ()
    found = {}
    for one in cells:
        for source in walked_beyond(memory, place, one):
            found[source] = True
    return in_order(found)
