"""FREE WAYS sought: how one goes on, which PLACES are MET, and shortest ways to them.

Ways are sought from state to state, (place, stands): stands is True as long as the last "store" to a CELL is that of
the source that is sought, for None as long as there is none. A hop is (state, step, through): the STEP from that state,
and, where through isn't None, a whole way through a routine behind it, (routine, stands ahead of it, stands behind it).
So a way through a routine is known once, however often and deep it is called.
"""

from storeways.codes import address_in, backs_of, is_place, routines_of, row_at
from storeways.errors import NoPlace
from storeways.faces import face
from storeways.graphs import goals
from storeways.waychecker import FIRST, led_to, state_of


def choices_of(code, row):
    """All choices of a ROW or an END, rising."""
    address = address_in(row)
    if address is not None:
        return face(code, address)
    return goals(row) if row[0] == "if" else (None,)


def goes_on(code, thing):
    """All STEPS by which a FREE WAY can go on, rising."""
    place, calls = state_of(code, thing)
    if place is None:
        return ()
    return tuple([(place, choice) for choice in choices_of(code, row_at(code, place))])


def hops_to(found, state):
    """The hops to a state, from the last one of each back to the first one."""
    hops = []
    hop = found[state][1]
    while hop is not None:
        hops.append(hop)
        hop = found[hop[0]][1]
    return hops


class Search:
    """Shortest FREE WAYS to PLACES of CODE, by whether the last "store" to the CELL is that of the source.

    Where the CELL is None no "store" is one to it, so ways are sought by their PLACES alone. lengths has how many
    STEPS a shortest way through a routine has, its "back" too; found, of each state how many STEPS lead to it, at
    least, and the last hop.
    """

    def __init__(self, code, cell, source):
        self.code = code
        self.cell = cell
        self.source = source
        self.lengths = {}
        self.learn_lengths()
        self.found = self.nearest_by_hops((FIRST, source is None), True)

    def stands_behind(self, state, row, choice):
        """Whether the source stands in the CELL behind a ROW or an END with this choice."""
        place, stands = state
        return place == self.source if row[0] == "store" and choice == self.cell else stands

    def hops_of_call(self, state, routine, enters):
        """What hops_at tells of a "call"."""
        place, stands = state
        name, block, at = place
        found = []
        for behind in (True, False):
            through = (routine, stands, behind)
            if through in self.lengths:
                goal = ((name, block, at + 1), behind)
                found.append((goal, 1 + self.lengths[through], (state, (place, None), through)))
        if enters:
            found.append((((routine, 0, 0), stands), 1, (state, (place, None), None)))
        return found

    def hops_at(self, state, enters):
        """The hops from a state, each as (state to which it leads, how many STEPS it has, hop).

        Where enters is True, calls may stay open, too.
        """
        place, stands = state
        row = row_at(self.code, place)
        if row[0] == "call":
            return self.hops_of_call(state, row[1], enters)
        found = []
        if row[0] == "back":
            return found
        for choice in choices_of(self.code, row):
            goal = (led_to(place, row, choice, []), self.stands_behind(state, row, choice))
            found.append((goal, 1, (state, (place, choice), None)))
        return found

    def nearest_by_hops(self, first, enters):
        """Of each state to which hops lead from the first one how many STEPS lead there, at least, and the last hop."""
        found = {}
        waiting = {first: (0, None)}
        while waiting:
            state = min(waiting, key=lambda other: waiting[other][0])
            found[state] = waiting.pop(state)
            for goal, many, hop in self.hops_at(state, enters):
                length = found[state][0] + many
                if goal not in found and (goal not in waiting or length < waiting[goal][0]):
                    waiting[goal] = (length, hop)
        return found

    def within(self, routine, ahead):
        """What hops find within a routine, by whether the source stands in the CELL ahead of it."""
        return self.nearest_by_hops(((routine, 0, 0), ahead), False)

    def nearest_back(self, found, routine, behind):
        """Of what hops find within a routine the state with the fewest STEPS at a "back" of it, None without one."""
        states = [(place, behind) for place in backs_of(self.code, routine) if (place, behind) in found]
        return min(states, key=lambda state: found[state][0]) if states else None

    def learn_lengths(self):
        """Come to know the lengths of ways through routines."""
        truths = (True,) if self.cell is None else (True, False)
        while True:
            newer = {}
            for routine, ahead in [(name, truth) for name in routines_of(self.code) for truth in truths]:
                found = self.within(routine, ahead)
                for behind in truths:
                    back = self.nearest_back(found, routine, behind)
                    if back is not None:
                        newer[(routine, ahead, behind)] = found[back][0] + 1
            # Each round knows ways with calls one deeper in one another; a shortest one has none like it within itself.
            if newer == self.lengths:
                return
            self.lengths = newer

    def hops_through(self, through):
        """The hops of a shortest way through a routine, from the last one on, its "back"."""
        routine, ahead, behind = through
        found = self.within(routine, ahead)
        back = self.nearest_back(found, routine, behind)
        return [(back, (back[0], None), None), *hops_to(found, back)]

    def spelled(self, hops):
        """The way of hops that are told from the last one on: each STEP of it, also those through routines."""
        known = {}
        way = []
        todo = list(hops)
        while todo:
            state, step, through = todo.pop()
            way.append(step)
            if through is not None:
                if through not in known:
                    known[through] = self.hops_through(through)
                todo.extend(known[through])
        return tuple(way)

    def way_at(self, place):
        """A shortest FREE WAY to a PLACE on which the source stands in the CELL there, None where there is none."""
        state = (place, True)
        return self.spelled(hops_to(self.found, state)) if state in self.found else None


def met_places(code):
    """All MET PLACES of CODE, rising."""
    return tuple(sorted([place for place, stands in Search(code, None, None).found]))


def way_to(code, place):
    """A shortest FREE WAY that leads to a MET PLACE."""
    way = Search(code, None, None).way_at(place) if is_place(code, place) else None
    if way is None:
        raise NoPlace(place)
    return way
