"""CODE TURNED: stores left out, reads carried by a NAME."""

from storeways.codes import row_at
from storeways.faces import can_fault


def kept_fault(address):
    """The ROWS that keep the FAULT of an ADDRESS which is no more read or stored."""
    return (("touch", address),) if can_fault(address) else ()


def rows_instead(code, turning):
    """By PLACE the ROWS that a TURNING puts there instead of the one that is there."""
    word, place = turning[:2]
    row = row_at(code, place)
    if word == "left":
        return {place: kept_fault(row[1])}
    carrier = turning[2]
    instead = {place: (*kept_fault(row[2]), ("set", row[1], "+", carrier, 0))}
    if word == "carried":
        store = row_at(code, turning[3])
        instead[turning[3]] = (("set", carrier, "+", store[2], 0), store)
    return instead


def turned_block(name, number, block, instead):
    """A BLOCK of a routine, with the ROWS that come instead."""
    rows, end = block
    newer = []
    for at, row in enumerate(rows):
        newer.extend(instead.get((name, number, at), (row,)))
    return (tuple(newer), end)


def turned(code, turning):
    """The CODE that a TURNING makes of CODE; its paper is not looked at."""
    instead = rows_instead(code, turning)
    objects, routines = code
    newer = []
    for name, blocks in routines:
        newer.append((name, tuple([turned_block(name, k, block, instead) for k, block in enumerate(blocks)])))
    return (objects, tuple(newer))
