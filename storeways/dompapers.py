"""Papers on which block DOMINATES which: a way around a block, or a fence that no way gets over."""

from storeways.graphs import led_around


def around(code, name, over, under):
    """An AROUND of over and under, None where over DOMINATES under."""
    ahead = led_around(code, name, over)
    if under not in ahead:
        return None
    way = []
    block = under
    while block is not None:
        way.append(block)
        block = ahead[block]
    return tuple(way[::-1])


def fence(code, name, over, under):
    """A FENCE of over and under, None where over doesn't DOMINATE under."""
    ahead = led_around(code, name, over)
    return None if under in ahead else tuple(sorted(ahead))
