"""A desk: a shop that is told rows of text, and answers each with a text."""

from storeways.carrying import carry
from storeways.errors import NoLine, NoText
from storeways.leaving import leave
from storeways.lines import shown_code, shown_number, shown_place, shown_start
from storeways.readings import count_in, read_code, read_place, read_row, read_start
from storeways.rereading import reread
from storeways.running import run
from storeways.shop import Shop

# What parts the lines of CODE in a row.
BAR = " | "

# What is due behind the word of each row; the last one takes all that is left of the row.
FORMS = {
    "code": ("code",),
    "edit": ("code",),
    "put": ("place", "row"),
    "take": ("place",),
    "change": ("place", "row"),
    "left": ("place",),
    "carried": ("place",),
    "again": ("place",),
    "back": ("count",),
    "sources": ("place",),
    "dead": (),
    "reckoned": (),
    "text": (),
    "then": ("count",),
    "edits": (),
    "run": ("count", "start"),
}


def read_count(text):
    """The NUMBER from 0 on that a text writes."""
    count = count_in(text)
    if count is None:
        raise NoText(0, 0)
    return count


def read_bars(text):
    """The CODE that a text writes with bars for line ends; a line end itself can't stand in a row."""
    if "\n" in text:
        raise NoText(0, 0)
    return read_code(text.replace(BAR, "\n"))


def read_part(kind, text):
    """What a text writes by the kind that is due."""
    if kind == "code":
        return read_bars(text)
    if kind == "place":
        return read_place(text)
    if kind == "row":
        return read_row(text)
    if kind == "start":
        return read_start(text)
    return read_count(text)


def read_line(row):
    """The word of a row, and the things behind it."""
    told = "back 1" if row == "back" else row
    word = told.partition(" ")[0]
    if word not in FORMS:
        raise NoLine(row)
    form = FORMS[word]
    parts = told.split(" ", len(form))
    if parts[0] != word or len(parts) != len(form) + 1:
        raise NoLine(row)
    try:
        return (word, [read_part(kind, part) for kind, part in zip(form, parts[1:])])
    except NoText:
        raise NoLine(row) from None


def told_words(words):
    """Several words, a blank between, - of none."""
    return " ".join(words) if words else "-"


def shown_bars(code):
    """The text of CODE with bars for line ends."""
    return shown_code(code).replace("\n", BAR)


def say_edit(shop, code):
    """The answer to "edit CODE"."""
    return told_words(shop.take_code(code))


def say_put(shop, place, row):
    """The answer to "put PLACE ROW"."""
    return told_words(shop.put_row(place, row))


def say_take(shop, place):
    """The answer to "take PLACE"."""
    return told_words(shop.take_row(place))


def say_change(shop, place, row):
    """The answer to "change PLACE ROW"."""
    return told_words(shop.change_row(place, row))


def say_left(shop, place):
    """The answer to "left PLACE"."""
    return told_words(shop.turn(leave(shop.code_now(), place, shop.shown)))


def say_carried(shop, place):
    """The answer to "carried PLACE"."""
    return told_words(shop.turn(carry(shop.code_now(), place)))


def say_again(shop, place):
    """The answer to "again PLACE"."""
    return told_words(shop.turn(reread(shop.code_now(), place)))


def say_back(shop, times):
    """The answer to "back" and "back K"."""
    return told_words(shop.back(times))


def say_sources(shop, place):
    """The answer to "sources PLACE"."""
    return told_words(["START" if source is None else shown_place(source) for source in shop.sources_of(place)])


def say_dead(shop):
    """The answer to "dead"."""
    return told_words([shown_place(place) for place in shop.dead_now()])


def say_reckoned(shop):
    """The answer to "reckoned"."""
    return told_words(shop.reckoned())


def say_text(shop):
    """The answer to "text"."""
    return shown_bars(shop.code_now())


def say_then(shop, k):
    """The answer to "then K"."""
    return shown_bars(shop.then(k))


def say_edits(shop):
    """The answer to "edits"."""
    return told_words(shop.edits())


def say_run(shop, fuel, start):
    """The answer to "run FUEL START"."""
    outcome = run(shop.code_now(), start, fuel)
    words = [outcome[0], ",".join([shown_number(number) for number in outcome[1]]) if outcome[1] else "-"]
    if outcome[0] == "ends":
        words.append(shown_start(((), outcome[2])))
    return " ".join(words)


ANSWERS = {
    "edit": say_edit,
    "put": say_put,
    "take": say_take,
    "change": say_change,
    "left": say_left,
    "carried": say_carried,
    "again": say_again,
    "back": say_back,
    "sources": say_sources,
    "dead": say_dead,
    "reckoned": say_reckoned,
    "text": say_text,
    "then": say_then,
    "edits": say_edits,
    "run": say_run,
}


class Desk:
    """A desk that keeps a shop, None at first."""

    def __init__(self):
        self.shop = None

    def say(self, row):
        """The answer to a row."""
        word, things = read_line(row)
        if word == "code":
            self.shop = Shop(things[0])
            return "ok"
        if self.shop is None:
            raise NoLine(row)
        answer = ANSWERS[word]
        return answer(self.shop, *things)
