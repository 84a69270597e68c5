"""RUNS of CODE: their OUTCOMES and their TRAILS."""

from storeways.codes import address_in, row_at
from storeways.faces import cells_in
from storeways.operands import cell_in, worth_in
from storeways.waychecker import FIRST, led_to

ENTERING = ("go", "if", "call")


def reckoned_by(word, one, other):
    """What "set" comes to by its word."""
    if word == "+":
        return one + other
    if word == "-":
        return one - other
    if word == "*":
        return one * other
    return 1 if one < other else 0


class Run:
    """A RUN of CODE, as far as it has come; word is that of its OUTCOME, None as long as it goes on."""

    def __init__(self, code, start, fuel):
        names, cells = ((), ()) if start is None else start
        self.code = code
        self.names = dict(names)
        self.cells = {cell: 0 for cell in cells_in(code)}
        for cell, number in cells:
            self.cells[cell] = number
        self.trace = []
        self.steps = []
        self.calls = []
        self.place = FIRST
        # The beginning enters a block, too.
        self.fuel = fuel - 1
        self.word = None if fuel > 0 else "fuel"

    def worth_of(self, operand):
        """What an OPERAND has now."""
        return worth_in(operand, self.names)

    def choose(self, row):
        """The choice that a ROW or an END comes to now, None, too, of an ADDRESS that is no CELL."""
        address = address_in(row)
        if address is not None:
            return cell_in(self.code, address, self.names)
        if row[0] == "if":
            return row[2] if self.worth_of(row[1]) != 0 else row[3]
        return None

    def is_fault(self, row, choice):
        """Whether a ROW with such a choice is a FAULT."""
        if row[0] == "need":
            return self.worth_of(row[1]) == 0
        return address_in(row) is not None and choice is None

    def do_row(self, row, choice):
        """Give NAMES, CELLS and the TRACE what a ROW gives them."""
        if row[0] == "load":
            self.names[row[1]] = self.cells[choice]
        elif row[0] == "store":
            self.cells[choice] = self.worth_of(row[2])
        elif row[0] == "set":
            self.names[row[1]] = reckoned_by(row[2], self.worth_of(row[3]), self.worth_of(row[4]))
        elif row[0] == "tell":
            self.trace.append(self.worth_of(row[1]))

    def take_step(self, row, choice):
        """Come to where a ROW or an END leads."""
        if row[0] in ENTERING:
            self.fuel -= 1
        self.steps.append((self.place, choice))
        self.place = led_to(self.place, row, choice, self.calls)
        if self.place is None:
            self.word = "ends"

    def go_on(self):
        """Do the ROW or the END that is due, or come to an end by a FAULT or for lack of FUEL."""
        row = row_at(self.code, self.place)
        choice = self.choose(row)
        if self.is_fault(row, choice):
            self.word = "fault"
        elif row[0] in ENTERING and self.fuel == 0:
            self.word = "fuel"
        else:
            self.do_row(row, choice)
            self.take_step(row, choice)


def ran(code, start, fuel):
    """The RUN, gone on with until it is at an end."""
    one = Run(code, start, fuel)
    while one.word is None:
        one.go_on()
    return one


def run(code, start=None, fuel=100):
    """The OUTCOME of the RUN of CODE."""
    one = ran(code, start, fuel)
    if one.word == "ends":
        return ("ends", tuple(one.trace), tuple(sorted(one.cells.items())))
    return (one.word, tuple(one.trace))


def trail(code, start=None, fuel=100):
    """The TRAIL of the RUN of CODE."""
    return tuple(ran(code, start, fuel).steps)
