"""What all ways do that can be gone STEP by STEP, calls a few deep in one another: to hold what is told against it."""

from storeways.codes import row_at
from storeways.faces import face
from storeways.freeing import choices_of, goes_on
from storeways.waychecker import FIRST, led_to, lets_way, shows, state_of

DEEPEST = 5


def gone(code, first, fact, turn, deepest=DEEPEST):
    """All (PLACE, open calls, fact) to which ways lead from a first PLACE with a fact, which turn(place, row, choice,
    fact) turns STEP by STEP."""
    seen = {(first, (), fact)}
    todo = list(seen)
    while todo:
        place, calls, fact = todo.pop()
        row = row_at(code, place)
        for choice in choices_of(code, row):
            open_calls = list(calls)
            goal = led_to(place, row, choice, open_calls)
            state = (goal, tuple(open_calls), turn(place, row, choice, fact))
            if goal is not None and len(open_calls) <= deepest and state not in seen:
                seen.add(state)
                todo.append(state)
    return seen


def last_store(cell):
    """The fact which "store" to the CELL was the last one."""
    return lambda place, row, choice, fact: place if row[0] == "store" and choice == cell else fact


def tried_within(code, name, cell):
    """Of each PLACE of a routine to which a WAY WITHIN leads all that may stand in the CELL there."""
    found = {}
    for place, calls, fact in gone(code, (name, 0, 0), None, last_store(cell)):
        if not calls:
            found.setdefault(place, set()).add(fact)
    return found


def tried(code, cell):
    """Of each MET PLACE all that may stand in the CELL there, None for the START."""
    found = {}
    for place, calls, fact in gone(code, FIRST, None, last_store(cell)):
        found.setdefault(place, set()).add(fact)
    return found


def tried_begins(code, name, cell):
    """All that may stand in the CELL where a routine is entered, a set."""
    states = gone(code, FIRST, None, last_store(cell))
    found = {fact for place, calls, fact in states if row_at(code, place) == ("call", name)}
    return found | ({None} if name == "main" else set())


def in_order(found):
    """SOURCES of a set of them."""
    return ((None,) if None in found else ()) + tuple(sorted(found - {None}))


def apart(found):
    """(made, passes) of a set of what may stand."""
    return (tuple(sorted(found - {None})), None in found)


def holding(code, name, cell):
    """The fact whether the NAME HOLDS the CELL, by the ROWS alone."""
    def turn(place, row, choice, fact):
        if row[0] in ("load", "set") and row[1] == name:
            return row[0] == "load" and face(code, row[2]) == (cell,)
        return fact and not (row[0] == "store" and cell in face(code, row[1]))
    return turn


def tried_holds(code, name, cell):
    """Of each MET PLACE whether the NAME HOLDS the CELL there."""
    found = {}
    for place, calls, fact in gone(code, FIRST, False, holding(code, name, cell)):
        found[place] = fact and found.get(place, True)
    return found


def tried_keeps(code, routine, name, cell, ahead):
    """Of each PLACE to which a WAY WITHIN leads whether the NAME HOLDS the CELL there, by whether it did at first."""
    found = {}
    for place, calls, fact in gone(code, (routine, 0, 0), ahead, holding(code, name, cell)):
        if not calls:
            found[place] = fact and found.get(place, True)
    return found


def shown_by_ways(code, longest):
    """All (read, CELL, source) that FREE WAYS of at most so many STEPS SHOW, each gone on from () STEP by STEP."""
    found = set()
    seen = set()
    ways = [()]
    for _ in range(longest):
        newer = []
        for way in ways:
            for step in goes_on(code, way):
                longer = (*way, step)
                if row_at(code, step[0])[0] == "load":
                    found.add((*shows(code, longer), step[1]))
                state = (state_of(code, longer), lets_way(code, longer))
                if state not in seen:
                    seen.add(state)
                    newer.append(longer)
        ways = newer
    return {(read, cell, source) for read, source, cell in found}
