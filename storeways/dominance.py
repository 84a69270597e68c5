"""Which blocks of a routine DOMINATE which, the NEAREST of them, and FRONTIERS."""

from storeways.codes import blocks_of
from storeways.graphs import led_around, nexts, reached


def dominates(code, name, over, under):
    """Whether over DOMINATES under, two blocks of a routine."""
    return under not in led_around(code, name, over)


def dominators(code, name, block):
    """All blocks of a routine that DOMINATE this one, rising."""
    return tuple([over for over in range(len(blocks_of(code, name))) if dominates(code, name, over, block)])


def nearest(code, name, block):
    """The NEAREST block of one of a routine, None where it has none."""
    if block not in reached(code, name):
        return None
    around = {over: led_around(code, name, over) for over in dominators(code, name, block) if over != block}
    for one in around:
        if all([one not in around[other] for other in around]):
            return one
    return None


def frontier(code, name, block):
    """The FRONTIER of a block of a routine, rising."""
    # One that isn't REACHED DOMINATES none of the REACHED ones, so nothing is in its FRONTIER.
    around = led_around(code, name, block)
    under = [other for other in reached(code, name) if other not in around]
    behind = [goal for other in under for goal in nexts(code, name, other)]
    return tuple(sorted(set([goal for goal in behind if goal == block or goal not in under])))


def frontier_again(code, name, blocks):
    """The FRONTIER AGAIN of a tuple of blocks of a routine, rising."""
    found = {}
    todo = list(blocks)
    while todo:
        for goal in frontier(code, name, todo.pop()):
            if goal not in found:
                found[goal] = True
                todo.append(goal)
    return tuple(sorted(found))
