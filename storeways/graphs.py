"""Which blocks of a routine GO TO which, and which are REACHED."""

from storeways.codes import blocks_of


def goals(end):
    """The blocks in an END, rising, each one once."""
    if end[0] == "go":
        return (end[1],)
    if end[0] == "if":
        return tuple(sorted(set(end[2:])))
    return ()


def nexts(code, name, block):
    """All blocks to which a block of a routine GOES, rising."""
    rows, end = blocks_of(code, name)[block]
    return goals(end)


def befores(code, name, block):
    """All blocks of a routine that GO TO this one, rising."""
    return tuple([other for other, (rows, end) in enumerate(blocks_of(code, name)) if block in goals(end)])


def reached(code, name):
    """All REACHED blocks of a routine, rising."""
    found = {0: True}
    todo = [0]
    while todo:
        for block in nexts(code, name, todo.pop()):
            if block not in found:
                found[block] = True
                todo.append(block)
    return tuple(sorted(found))
