"""The log of a froth: its orders, which can be taken back and done again."""

from frothwane.errors import NoBack, NoForth, NoOrder, NoStand
from frothwane.froth import Froth
from frothwane.words import read, shown


class Log:
    """A froth at each of its stands, and the texts of what led to them."""

    def __init__(self, rows, cols, gases):
        """Begin a log with a froth that begins so."""
        # For each stand, those taken back too, the froth there and the text that led to it.
        self.froths = [Froth(rows, cols, gases)]
        self.texts = [shown(("begin", rows, cols, *gases))]
        self.place = 0

    def deed(self, order):
        """Do an order at the present stand, and tell the rows that it writes."""
        made = self.froths[self.place].twin()
        rows = made.deed(order)
        self.place += 1
        self.froths = self.froths[:self.place] + [made]
        self.texts = self.texts[:self.place] + [shown(order)]
        return rows

    def back(self):
        """Take the last order back, and tell the stand."""
        if self.place == 0:
            raise NoBack("there is no order to take back")
        self.place -= 1
        return self.place

    def forth(self):
        """Do again the order that was taken back last, and tell the stand."""
        if self.place + 1 == len(self.froths):
            raise NoForth("no order was taken back")
        self.place += 1
        return self.place

    def stand(self):
        """The number of the present stand."""
        return self.place

    def at(self, stand):
        """A froth as it was at a stand, which goes its own way."""
        if not 0 <= stand < len(self.froths):
            raise NoStand(f"the log has no stand {stand}")
        return self.froths[stand].twin()

    def froth(self):
        """A froth as it is at the present stand, which goes its own way."""
        return self.at(self.place)

    def told(self):
        """The texts of the begin and of the orders up to the present stand."""
        return self.texts[:self.place + 1]


def begun(order):
    """The log that a begin makes."""
    if order[0] != "begin":
        raise NoOrder("a log begins with a begin")
    return Log(order[1], order[2], list(order[3:]))


def log_of(lines):
    """The log of a list of texts: a begin and the orders that follow it."""
    if not lines:
        raise NoOrder("a log begins with a text")
    made = begun(read(lines[0]))
    for line in lines[1:]:
        # A later begin is read, but it is no order that a froth does, and is refused with NoOrder, too.
        made.deed(read(line))
    return made
