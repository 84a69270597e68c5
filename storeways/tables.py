"""TABLES: all that may stand in a CELL, PLACE by PLACE and routine by routine."""

from storeways.beginnings import entering, in_order
from storeways.codes import places_in, routines_of
from storeways.passing import standing, told_apart


def table_of(code, cell):
    """The least TABLE of a CELL."""
    points = standing(code, cell)
    begun = entering(code, points)
    return (tuple([(place, *told_apart(points[place])) for place in places_in(code)]),
            tuple([(name, in_order(begun[name])) for name in routines_of(code)]))
