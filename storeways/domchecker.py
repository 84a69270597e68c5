"""AROUNDS and FENCES looked at."""

from storeways.codes import blocks_of
from storeways.errors import NoPaper
from storeways.graphs import nexts
from storeways.kinds import is_number


def is_numbers(thing):
    """Whether any thing is a tuple, perhaps (), of NUMBERS."""
    return isinstance(thing, tuple) and all([is_number(part) for part in thing])


def lets_around(code, name, over, under, thing):
    """True, where any thing is an AROUND of over and under."""
    if not is_numbers(thing) or not thing:
        raise NoPaper("shape", -1)
    goals = (0,)
    for k, block in enumerate(thing):
        if block not in goals:
            raise NoPaper("next", k)
        if block == over:
            raise NoPaper("over", k)
        goals = nexts(code, name, block)
    if thing[-1] != under:
        raise NoPaper("last", -1)
    return True


def is_rising_blocks(code, name, thing):
    """Whether any thing is a rising tuple, perhaps (), of NUMBERS of blocks of a routine."""
    if not is_numbers(thing) or not all([one < other for one, other in zip(thing, thing[1:])]):
        return False
    return not thing or (thing[0] >= 0 and thing[-1] < len(blocks_of(code, name)))


def lets_fence(code, name, over, under, thing):
    """True, where any thing is a FENCE of over and under."""
    if not is_rising_blocks(code, name, thing):
        raise NoPaper("shape", -1)
    for block in thing:
        if block in (over, under):
            raise NoPaper("in", block)
    if over != 0 and 0 not in thing:
        raise NoPaper("first", -1)
    for block in thing:
        if not all([goal == over or goal in thing for goal in nexts(code, name, block)]):
            raise NoPaper("next", block)
    return True
