"""Which blocks of a routine GO TO which, which are REACHED, and how a PLACE goes on within its routine."""

from storeways.codes import END_FORMS, blocks_of, row_at


def goals(end):
    """The blocks in an END, rising, each one once."""
    if end[0] == "go":
        return (end[1],)
    if end[0] == "if":
        return tuple(sorted(set(end[2:])))
    return ()


def nexts(code, name, block):
    """All blocks to which a block of a routine GOES, rising."""
    rows, end = blocks_of(code, name)[block]
    return goals(end)


def befores(code, name, block):
    """All blocks of a routine that GO TO this one, rising."""
    return tuple([other for other, (rows, end) in enumerate(blocks_of(code, name)) if block in goals(end)])


def led_around(code, name, over):
    """Each block to which a BLOCK WAY without over leads, with the block ahead on one such; None as over bars none."""
    if over == 0:
        return {}
    ahead = {0: None}
    todo = [0]
    while todo:
        block = todo.pop()
        for goal in nexts(code, name, block):
            if goal != over and goal not in ahead:
                ahead[goal] = block
                todo.append(goal)
    return ahead


def reached(code, name):
    """All REACHED blocks of a routine, rising."""
    return tuple(sorted(led_around(code, name, None)))


def onwards(code, place):
    """The PLACES of its routine to which a PLACE goes on by itself; behind a "call" where that comes back."""
    name, block, at = place
    row = row_at(code, place)
    if row[0] in END_FORMS:
        return [(name, goal, 0) for goal in goals(row)]
    return [(name, block, at + 1)]
