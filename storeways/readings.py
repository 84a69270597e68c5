"""Texts read as ROWS, CODE, STARTS and PLACES, or refused with the first word that can't stand.

What reads one word tells None where the word can't stand: None itself is never written.
"""

from storeways.codes import END_FORMS, ROW_FORMS, SIGNS, is_code
from storeways.errors import NoText
from storeways.kinds import is_word

MOST_FIGURES = 12

# What is due behind the first word of the lines of CODE that are neither ROWS nor ENDS.
HEAD_FORMS = {
    "object": ("name", "size"),
    "routine": ("name",),
}


def name_in(text):
    """The WORD that a text writes."""
    return text if is_word(text) else None


def count_in(text):
    """The NUMBER from 0 on that a text writes."""
    if not 1 <= len(text) <= MOST_FIGURES or not all(["0" <= sign <= "9" for sign in text]):
        return None
    return None if text[0] == "0" and text != "0" else int(text)


def number_in(text):
    """The NUMBER that a text writes."""
    if not text.startswith("-"):
        return count_in(text)
    below = count_in(text[1:])
    return None if below is None or below == 0 else -below


def operand_in(text):
    """The OPERAND that a text writes."""
    return text if is_word(text) else number_in(text)


def pick_in(text):
    """The OPERAND, a NUMBER of it from 0 on, that a text writes as pick or index."""
    return text if is_word(text) else count_in(text)


def sign_in(text):
    """The word of a "set" that a text writes."""
    return text if text in SIGNS else None


def address_written(text):
    """The ADDRESS that a text writes, of whatever OBJECTS."""
    parts = text.split(":")
    if len(parts) != 3:
        return None
    objects = tuple(parts[0].split(","))
    if not all([is_word(word) for word in objects]) or len(set(objects)) != len(objects):
        return None
    pick, index = pick_in(parts[1]), pick_in(parts[2])
    return None if pick is None or index is None else (objects, pick, index)


def cell_written(text):
    """The CELL that a text writes, of whatever OBJECTS."""
    parts = text.split(":")
    if len(parts) != 2 or not is_word(parts[0]) or count_in(parts[1]) is None:
        return None
    return (parts[0], count_in(parts[1]))


def place_written(text):
    """The PLACE that a text writes, of whatever CODE."""
    parts = text.split(":")
    if len(parts) != 3 or not is_word(parts[0]):
        return None
    block, row = count_in(parts[1]), count_in(parts[2])
    return None if block is None or row is None else (parts[0], block, row)


READERS = {
    "name": name_in,
    "address": address_written,
    "operand": operand_in,
    "sign": sign_in,
    "routine": name_in,
    "block": count_in,
    "size": count_in,
}


def read_form(form, words, line):
    """The tuple of the first word and of what the others write, by what this form has due behind it."""
    things = [words[0]]
    for at, word in enumerate(words[1:], start=1):
        if at > len(form):
            raise NoText(line, at)
        reader = READERS[form[at - 1]]
        thing = reader(word)
        if thing is None:
            raise NoText(line, at)
        things.append(thing)
    if len(words) <= len(form):
        raise NoText(line, len(words))
    return tuple(things)


def read_row(text, line=0):
    """The ROW that a text writes; line goes into a refusal."""
    words = text.split(" ")
    if words[0] not in ROW_FORMS:
        raise NoText(line, 0)
    return read_form(ROW_FORMS[words[0]], words, line)


class Draft:
    """CODE as far as its lines are read; rows are those of the block that is open."""

    def __init__(self):
        self.objects = []
        self.routines = []
        self.rows = []

    def form_due(self, word):
        """What is due behind a word that begins a line by the lines ahead of it, None where it can't stand."""
        if word == "object":
            return None if self.routines else HEAD_FORMS[word]
        if word == "routine":
            return None if self.rows else HEAD_FORMS[word]
        if not self.routines:
            return None
        return ROW_FORMS.get(word, END_FORMS.get(word))

    def take_line(self, text, line):
        """Take in the next line."""
        words = text.split(" ")
        form = self.form_due(words[0])
        if form is None:
            raise NoText(line, 0)
        things = read_form(form, words, line)
        if words[0] == "object":
            self.objects.append(things[1:])
        elif words[0] == "routine":
            self.routines.append((things[1], []))
        elif words[0] in ROW_FORMS:
            self.rows.append(things)
        else:
            self.routines[-1][1].append((tuple(self.rows), things))
            self.rows = []

    def code_so_far(self):
        """What the lines write, perhaps no CODE, without a block that is open."""
        return (tuple(self.objects), tuple([(name, tuple(blocks)) for name, blocks in self.routines]))


def lines_in(text):
    """The lines of a text; one line end behind the last one is let be, and the empty text has none."""
    lines = text.split("\n")
    if lines[-1] == "":
        lines.pop()
    return lines


def read_code(text):
    """The CODE that a text writes."""
    lines = lines_in(text)
    draft = Draft()
    for at, line in enumerate(lines):
        draft.take_line(line, at)
    code = draft.code_so_far()
    if draft.rows or not is_code(code):
        raise NoText(len(lines), 0)
    return code


def takes_next(pairs, thing):
    """Whether a NAME or a CELL, None where there is none, rises above those that pairs have ahead of it."""
    return thing is not None and (not pairs or pairs[-1][0] < thing)


def read_start(text):
    """The START that a text writes."""
    if text == "-":
        return ((), ())
    names = []
    cells = []
    for at, word in enumerate(text.split(" ")):
        left, sign, right = word.partition("=")
        number = number_in(right)
        if number is None:
            raise NoText(0, at)
        if not cells and takes_next(names, name_in(left)):
            names.append((left, number))
        elif takes_next(cells, cell_written(left)):
            cells.append((cell_written(left), number))
        else:
            raise NoText(0, at)
    return (tuple(names), tuple(cells))


def read_place(text):
    """The PLACE that a text writes."""
    words = text.split(" ")
    place = place_written(words[0])
    if place is None:
        raise NoText(0, 0)
    if len(words) > 1:
        raise NoText(0, 1)
    return place
