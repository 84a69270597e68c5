"""CODE: whether a thing is CODE, a ROW, an END, a PLACE, and what stands where in it."""

from storeways.errors import NoPlace, NoRoutine
from storeways.faces import face, is_address
from storeways.kinds import has_rising_firsts, is_number, is_objects, is_operand, is_pair, is_word

SIGNS = ("+", "-", "*", "<")

# What is due behind the word of each ROW and of each END, thing by thing.
ROW_FORMS = {
    "load": ("name", "address"),
    "store": ("address", "operand"),
    "touch": ("address",),
    "set": ("name", "sign", "operand", "operand"),
    "tell": ("operand",),
    "need": ("operand",),
    "call": ("routine",),
}
END_FORMS = {
    "go": ("block",),
    "if": ("operand", "block", "block"),
    "back": (),
}

# Which thing of a ROW is its ADDRESS.
ADDRESS_AT = {
    "load": 2,
    "store": 1,
    "touch": 1,
}


def fits(code, many, kind, thing):
    """Whether any thing may stand where this kind is due in CODE, in a routine of so many blocks."""
    if kind == "name":
        return is_word(thing)
    if kind == "operand":
        return is_operand(thing)
    if kind == "address":
        return is_address(code, thing)
    if kind == "sign":
        return thing in SIGNS
    if kind == "block":
        return is_number(thing) and 0 <= thing < many
    return thing in routines_of(code) and thing != "main"


def fits_form(code, many, form, thing):
    """Whether behind the first thing of a tuple stands just what this form has due."""
    if len(thing) != len(form) + 1:
        return False
    return all([fits(code, many, kind, part) for kind, part in zip(form, thing[1:])])


def begins_with_word(thing):
    """Whether any thing is a tuple with a WORD ahead: a form is sought by nothing else, as a list is no key."""
    return isinstance(thing, tuple) and len(thing) > 0 and is_word(thing[0])


def is_row(code, thing):
    """Whether any thing is a ROW that CODE may have."""
    if not begins_with_word(thing) or thing[0] not in ROW_FORMS:
        return False
    return fits_form(code, 0, ROW_FORMS[thing[0]], thing)


def is_end_among(code, many, thing):
    """Whether any thing is an END that a routine of so many blocks may have."""
    if not begins_with_word(thing) or thing[0] not in END_FORMS:
        return False
    return fits_form(code, many, END_FORMS[thing[0]], thing)


def is_end(code, name, thing):
    """Whether any thing is an END that this routine of CODE may have."""
    return is_end_among(code, len(blocks_of(code, name)), thing)


def is_block(code, many, thing):
    """Whether any thing is a BLOCK that a routine of so many blocks may have."""
    if not is_pair(thing) or not isinstance(thing[0], tuple):
        return False
    return all([is_row(code, row) for row in thing[0]]) and is_end_among(code, many, thing[1])


def is_routine(thing):
    """Whether any thing is a pair of a WORD and a tuple of one thing or more."""
    return is_pair(thing) and is_word(thing[0]) and isinstance(thing[1], tuple) and len(thing[1]) > 0


def are_routines(thing):
    """Whether any thing is such as the routines of CODE are, but for what stands in their blocks."""
    if not isinstance(thing, tuple) or not all([is_routine(pair) for pair in thing]):
        return False
    return has_rising_firsts(thing) and "main" in [pair[0] for pair in thing]


def is_code(thing):
    """Whether any thing is CODE."""
    if not is_pair(thing) or not is_objects(thing[0]) or not are_routines(thing[1]):
        return False
    # From here on OBJECTS and WORDS of routines are right: that is all that ROWS and ENDS are looked at by.
    return all([is_block(thing, len(blocks), block) for name, blocks in thing[1] for block in blocks])


def routines_of(code):
    """The WORDS of the routines of CODE, rising."""
    return tuple([name for name, blocks in code[1]])


def blocks_of(code, name):
    """The blocks of the routine of CODE that is called so."""
    for word, blocks in code[1]:
        if word == name:
            return blocks
    raise NoRoutine(name)


def operands_in(row):
    """All that stands in a ROW or an END as an OPERAND, or as what is given something."""
    form = ROW_FORMS[row[0]] if row[0] in ROW_FORMS else END_FORMS[row[0]]
    found = []
    for kind, thing in zip(form, row[1:]):
        if kind == "address":
            found.extend(thing[1:])
        elif kind in ("name", "operand"):
            found.append(thing)
    return found


def address_in(row):
    """The ADDRESS of a ROW, None of one that has none, and of an END."""
    return row[ADDRESS_AT[row[0]]] if row[0] in ADDRESS_AT else None


def names_in(code):
    """All NAMES that stand in CODE, rising."""
    found = []
    for name, blocks in code[1]:
        for rows, end in blocks:
            for row in (*rows, end):
                found.extend(operands_in(row))
    return tuple(sorted(set([thing for thing in found if is_word(thing)])))


def places_in(code):
    """All PLACES of CODE, rising."""
    places = []
    for name, blocks in code[1]:
        for block, (rows, end) in enumerate(blocks):
            places.extend([(name, block, row) for row in range(len(rows) + 1)])
    return tuple(places)


def is_place(code, thing):
    """Whether any thing is a PLACE of CODE."""
    if not isinstance(thing, tuple) or len(thing) != 3:
        return False
    name, block, row = thing
    if name not in routines_of(code) or not is_number(block) or not is_number(row):
        return False
    blocks = blocks_of(code, name)
    return 0 <= block < len(blocks) and 0 <= row <= len(blocks[block][0])


def row_at(code, place):
    """The ROW or the END at a PLACE of CODE."""
    if not is_place(code, place):
        raise NoPlace(place)
    name, block, row = place
    rows, end = blocks_of(code, name)[block]
    return end if row == len(rows) else rows[row]


def is_place_of(code, word, thing):
    """Whether any thing is a PLACE of CODE at which a ROW or an END of this word stands."""
    return is_place(code, thing) and row_at(code, thing)[0] == word


def places_with(code, word):
    """The PLACES of CODE at which ROWS or ENDS of this word stand, rising."""
    return [place for place in places_in(code) if row_at(code, place)[0] == word]


def sure_cell(code, word, thing):
    """The one CELL of the FACE of a ROW of this word at any thing as its PLACE, None where there is no such one."""
    if not is_place_of(code, word, thing):
        return None
    cells = face(code, address_in(row_at(code, thing)))
    return cells[0] if len(cells) == 1 else None


def is_new_name(code, thing):
    """Whether any thing is a WORD that is no NAME of CODE."""
    return is_word(thing) and thing not in names_in(code)


def loads_of(code, cell):
    """The PLACES of the "load" ROWS of CODE whose FACES have this CELL, rising."""
    return [place for place in places_with(code, "load") if cell in face(code, row_at(code, place)[2])]


def backs_of(code, name):
    """The PLACES of the "back" ENDS of a routine of CODE, rising."""
    return [(name, block, len(rows)) for block, (rows, end) in enumerate(blocks_of(code, name)) if end[0] == "back"]
