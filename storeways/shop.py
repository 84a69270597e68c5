"""A shop: CODE that is edited, reckoned anew only where it has to be, with all that it was ahead.

points have here, CELL by CELL, what STANDS at each PLACE.
"""

from storeways.codes import END_FORMS, blocks_of, is_code, is_end, is_place, is_row, places_in, routines_of, row_at
from storeways.dead import dead_among
from storeways.errors import NoBack, NoCode, NoPlace
from storeways.faces import cells_in, is_cell
from storeways.kinds import is_number
from storeways.lines import shown_code
from storeways.passing import standing_of, through, told_apart
from storeways.sources import cells_asked, sources_among
from storeways.turnchecker import lets_turning

# What stands for CODE ahead of the first one: no CODE has its OBJECTS, so by it all is reckoned.
NOTHING = ((), ())


def called_in(code, name):
    """The routines to which "call" ROWS of a routine lead, of whatever blocks."""
    return [row[1] for rows, end in blocks_of(code, name) for row in rows if row[0] == "call"]


def come_to(code, name):
    """A routine with all routines that it can come to by "call" ROWS, a dict of True."""
    found = {name: True}
    todo = [name]
    while todo:
        one = todo.pop()
        for called in called_in(code, one):
            if called not in found:
                found[called] = True
                todo.append(called)
    return found


def rings(code):
    """The RINGS of CODE, those called ahead of those that call them, as what one calls can come to fewer routines."""
    after = {name: come_to(code, name) for name in routines_of(code)}
    found = []
    for name in sorted(after, key=lambda one: len(after[one])):
        ring = [other for other in after[name] if name in after[other]]
        if name == min(ring):
            found.append(ring)
    return found


def is_due(older, newer, ring, otherwise):
    """Whether a RING of newer CODE has to be reckoned; otherwise has of those called whose SUMMARIES are otherwise."""
    if older[0] != newer[0]:
        return True
    blocks = dict(older[1])
    if any([blocks.get(name) != blocks_of(newer, name) for name in ring]):
        return True
    return any([otherwise[called] for name in ring for called in called_in(newer, name) if called not in ring])


def is_otherwise(older, old_points, newer, points, name):
    """Whether the SUMMARIES of a routine of newer CODE are otherwise than they were."""
    if older[0] != newer[0] or name not in routines_of(older):
        return True
    return any([through(newer, name, points[cell]) != through(older, name, old_points[cell]) for cell in points])


def with_kept(newer, ring, known, kept):
    """What STANDS in a CELL by what is known, and, at the PLACES of a RING that isn't due, by what was kept."""
    points = {place: known[place] for place in known}
    for place in places_in(newer):
        if place[0] in ring:
            points[place] = kept[place]
    return points


def reckon(older, old_points, newer):
    """The points of newer CODE, and the routines RECKONED AGAIN, rising, by the older CODE and its points."""
    cells = cells_in(newer)
    points = {cell: {} for cell in cells}
    again = []
    otherwise = {}
    for ring in rings(newer):
        due = is_due(older, newer, ring, otherwise)
        for cell in cells:
            if due:
                points[cell] = standing_of(newer, cell, ring, points[cell])
            else:
                points[cell] = with_kept(newer, ring, points[cell], old_points[cell])
        for name in ring:
            otherwise[name] = due and is_otherwise(older, old_points, newer, points, name)
        again.extend(ring if due else [])
    return (points, tuple(sorted(again)))


def spliced_block(block, at, many, things):
    """A BLOCK with these instead of so many ROWS or ENDS of it from a row on."""
    rows, end = block
    whole = (*rows, end)
    newer = whole[:at] + things + whole[at + many:]
    return (newer[:-1], newer[-1])


def spliced(code, place, many, things):
    """CODE with these instead of so many ROWS or ENDS from a PLACE on."""
    name, number, at = place
    blocks = blocks_of(code, name)
    newer = (*blocks[:number], spliced_block(blocks[number], at, many, things), *blocks[number + 1:])
    return (code[0], tuple([(word, newer if word == name else others) for word, others in code[1]]))


def look_at_code(code, shown):
    """Refuses any thing that is no CODE, or that hasn't a CELL that is SHOWN."""
    if not is_code(code):
        raise NoCode("code")
    if shown is not None and not all([is_cell(code, cell) for cell in shown]):
        raise NoCode("shown")


class Shop:
    """CODE that is edited. A state is (word, code, points, names): word that of the EDIT, names what it RECKONED AGAIN.

    first is the state ahead of all EDITS, done has those behind each one.
    """

    def __init__(self, code, shown=None):
        look_at_code(code, shown)
        points, names = reckon(NOTHING, {}, code)
        self.shown = shown
        self.first = (None, code, points, ())
        self.done = []

    def state_now(self):
        """The state behind the last EDIT."""
        return self.done[-1] if self.done else self.first

    def points_now(self):
        """The points of the CODE."""
        return self.state_now()[2]

    def shown_now(self):
        """The CELLS that are SHOWN."""
        return cells_in(self.code_now()) if self.shown is None else self.shown

    def do_edit(self, word, newer):
        """Take newer CODE, and tell the routines RECKONED AGAIN."""
        points, names = reckon(self.code_now(), self.points_now(), newer)
        self.done.append((word, newer, points, names))
        return names

    def put_row(self, place, row):
        """Put a ROW in ahead of a PLACE, also of an END's."""
        code = self.code_now()
        if not is_place(code, place):
            raise NoPlace(place)
        if not is_row(code, row):
            raise NoCode("row")
        return self.do_edit("put", spliced(code, place, 0, (row,)))

    def take_row(self, place):
        """Take a ROW out."""
        code = self.code_now()
        if row_at(code, place)[0] in END_FORMS:
            raise NoPlace(place)
        return self.do_edit("take", spliced(code, place, 1, ()))

    def change_row(self, place, row):
        """Exchange a ROW by another ROW, an END by another END."""
        code = self.code_now()
        at_end = row_at(code, place)[0] in END_FORMS
        if not (is_end(code, place[0], row) if at_end else is_row(code, row)):
            raise NoCode("row")
        return self.do_edit("change", spliced(code, place, 1, (row,)))

    def take_code(self, code):
        """Take other CODE."""
        look_at_code(code, self.shown)
        return self.do_edit("code", code)

    def turn(self, turning):
        """Do a TURNING whose paper shows it."""
        return self.do_edit("turn", lets_turning(self.code_now(), self.shown, turning))

    def back(self, times=1):
        """Undo so many of the last EDITS, and tell their words, the last one first."""
        if not is_number(times) or not 1 <= times <= len(self.done):
            raise NoBack(times)
        words = [state[0] for state in self.done[-times:]]
        self.done = self.done[:-times]
        return tuple(words[::-1])

    def code_now(self):
        """The CODE."""
        return self.state_now()[1]

    def then(self, k):
        """The CODE behind the first k EDITS."""
        if not is_number(k) or not 0 <= k <= len(self.done):
            raise NoBack(k)
        states = [self.first, *self.done]
        return states[k][1]

    def edits(self):
        """The words of all EDITS."""
        return tuple([state[0] for state in self.done])

    def reckoned(self):
        """The routines RECKONED AGAIN by the last EDIT that stands."""
        return self.state_now()[3]

    def summary_of(self, name, cell):
        """The SUMMARY of a routine and a CELL."""
        return told_apart(through(self.code_now(), name, self.points_now()[cell]))

    def sources_of(self, place, cell=None):
        """The SOURCES of a "load" and a CELL, of all CELLS of its FACE together for None."""
        code = self.code_now()
        return sources_among(code, place, cells_asked(code, place, cell), self.points_now())

    def dead_now(self):
        """The PLACES of all DEAD "store" ROWS, rising."""
        return dead_among(self.code_now(), self.shown, self.points_now())

    def __len__(self):
        return len(self.done)

    def __str__(self):
        return str(shown_code(self.code_now()))

    def __eq__(self, other):
        if not isinstance(other, Shop):
            return False
        return self.code_now() == other.code_now() and self.shown_now() == other.shown_now()
