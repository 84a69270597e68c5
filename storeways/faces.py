"""CELLS, and ADDRESSES with the CELLS that they can be."""

from storeways.kinds import is_number, is_operand, is_pair, is_word


def cells_in(code):
    """All CELLS of CODE, rising."""
    return tuple([(word, index) for word, size in code[0] for index in range(size)])


def is_cell(code, thing):
    """Whether any thing is a CELL of CODE."""
    if not is_pair(thing) or not is_word(thing[0]) or not is_number(thing[1]):
        return False
    return 0 <= thing[1] < dict(code[0]).get(thing[0], 0)


def is_shown(shown, cell):
    """Whether a CELL is among those SHOWN, None like all."""
    return shown is None or cell in shown


def can_be_within(operand, many):
    """Whether an OPERAND may stand where one of so many is picked: a NAME always may."""
    return is_word(operand) or 0 <= operand < many


def are_unlike_objects(code, thing):
    """Whether any thing is a tuple of one WORD or more of OBJECTS of CODE, none of them twice."""
    if not isinstance(thing, tuple) or len(thing) == 0:
        return False
    sizes = dict(code[0])
    if not all([is_word(word) and word in sizes for word in thing]):
        return False
    return len(set(thing)) == len(thing)


def is_address(code, thing):
    """Whether any thing is an ADDRESS of the OBJECTS of CODE."""
    if not isinstance(thing, tuple) or len(thing) != 3:
        return False
    objects, pick, index = thing
    if not are_unlike_objects(code, objects) or not is_operand(pick) or not is_operand(index):
        return False
    sizes = dict(code[0])
    return can_be_within(pick, len(objects)) and all([can_be_within(index, sizes[word]) for word in objects])


def choices(operand, many):
    """All of so many that an OPERAND can pick."""
    return list(range(many)) if is_word(operand) else [operand]


def face(code, address):
    """The FACE of an ADDRESS of CODE, rising."""
    objects, pick, index = address
    sizes = dict(code[0])
    picked = [objects[at] for at in choices(pick, len(objects))]
    return tuple(sorted([(word, at) for word in picked for at in choices(index, sizes[word])]))


def is_sure(code, address):
    """Whether an ADDRESS of CODE is SURE."""
    return len(face(code, address)) == 1


def can_fault(address):
    """Whether an ADDRESS CAN FAULT."""
    return is_word(address[1]) or is_word(address[2])
