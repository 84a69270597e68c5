"""STARTS, and what OPERANDS and ADDRESSES come to by what the NAMES have."""

from storeways.faces import is_cell
from storeways.kinds import has_rising_firsts, is_number, is_pair, is_word


def is_numbered(thing):
    """Whether any thing is a tuple of pairs whose second things are NUMBERS."""
    return isinstance(thing, tuple) and all([is_pair(pair) and is_number(pair[1]) for pair in thing])


def are_start_names(thing):
    """Whether any thing is such as the names of a START are."""
    return is_numbered(thing) and all([is_word(pair[0]) for pair in thing]) and has_rising_firsts(thing)


def are_start_cells(code, thing):
    """Whether any thing is such as the cells of a START of CODE are."""
    return is_numbered(thing) and all([is_cell(code, pair[0]) for pair in thing]) and has_rising_firsts(thing)


def is_start(code, thing):
    """Whether any thing is a START of CODE."""
    return is_pair(thing) and are_start_names(thing[0]) and are_start_cells(code, thing[1])


def worth_in(operand, table):
    """What an OPERAND has by a dict of NAMES; one that isn't there has 0."""
    return operand if is_number(operand) else table.get(operand, 0)


def worth(operand, names=None):
    """The WORTH of an OPERAND by names; a NAME that isn't there has 0."""
    return worth_in(operand, dict(names or ()))


def cell_in(code, address, table):
    """The CELL that an ADDRESS of CODE is by a dict of NAMES, None where there is none."""
    objects, pick, index = address
    at = worth_in(pick, table)
    if not 0 <= at < len(objects):
        return None
    cell = (objects[at], worth_in(index, table))
    return cell if is_cell(code, cell) else None


def cell_by(code, address, names=None):
    """The CELL that an ADDRESS of CODE is by names, None where there is none."""
    return cell_in(code, address, dict(names or ()))
