"""ROWS, ENDS, CODE, STARTS and PLACES written as texts."""

PIECE_FIGURES = 60
PIECE = 10 ** 60


def shown_figures(number):
    """The figures of a number from 0 on; in pieces, as Python alone refuses to write very long ones."""
    pieces = []
    while number >= PIECE:
        number, piece = divmod(number, PIECE)
        pieces.append(str(piece).zfill(PIECE_FIGURES))
    pieces.append(str(number))
    return "".join(pieces[::-1])


def shown_number(number):
    """The text of a NUMBER."""
    if number < 0:
        return "-" + shown_figures(-number)
    return shown_figures(number)


def shown_word(thing):
    """The one word that writes a thing of a ROW or an END."""
    if isinstance(thing, str):
        return thing
    if isinstance(thing, tuple):
        return shown_address(thing)
    return shown_number(thing)


def shown_address(address):
    """The one word that writes an ADDRESS."""
    objects, pick, index = address
    return ":".join([",".join(objects), shown_word(pick), shown_word(index)])


def shown_row(row):
    """The text of a ROW or an END."""
    return " ".join([shown_word(thing) for thing in row])


def shown_routine(name, blocks):
    """The lines of a routine."""
    lines = ["routine " + name]
    for rows, end in blocks:
        lines.extend([shown_row(row) for row in (*rows, end)])
    return lines


def shown_code(code):
    """The text of CODE, a line end between two lines."""
    objects, routines = code
    lines = ["object " + word + " " + shown_number(size) for word, size in objects]
    for name, blocks in routines:
        lines.extend(shown_routine(name, blocks))
    return "\n".join(lines)


def shown_cell(cell):
    """The one word that writes a CELL."""
    return cell[0] + ":" + shown_number(cell[1])


def shown_start(start):
    """The text of a START."""
    names, cells = start
    words = [name + "=" + shown_number(number) for name, number in names]
    words.extend([shown_cell(cell) + "=" + shown_number(number) for cell, number in cells])
    return " ".join(words) if words else "-"


def shown_place(place):
    """The one word that writes a PLACE."""
    return ":".join([shown_word(thing) for thing in place])
