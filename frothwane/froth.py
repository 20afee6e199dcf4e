"""A froth: a web whose bubbles have names and gas, which change by orders and by the hours."""

from frothwane.amounts import amount, below, minus, plus
from frothwane.changes import (
    NOUGHT, gas_by_row, is_there, ledgers_behind, owners_blown, owners_joined, owners_of, owners_parted, owners_turned,
    way_out,
)
from frothwane.errors import BadBegin, BadGas, BadTime, Full, NoBubble, NoHour, NoOrder
from frothwane.hours import first_to_go
from frothwane.moves import blown, burst, parted, pulled, pushed
from frothwane.web import comb, corners, require_end, rims

MOST_AT_BEGIN = 36
MOST_BUBBLES = 60
MOST_GAS = 10 ** 6
MOST_HOURS = 10 ** 11
MOST_DEN = 60
NEW_FILMS = 3


def require_begin(rows, cols, gases):
    """Refuse what no froth begins with."""
    if rows < 1 or cols < 1:
        raise BadBegin(f"there is no comb of {rows} rows and {cols} columns")
    if rows * cols > MOST_AT_BEGIN:
        raise BadBegin(f"{rows * cols} bubbles are too many")
    if len(gases) != rows * cols:
        raise BadBegin(f"there are {len(gases)} gases for {rows * cols} bubbles")
    for gas in gases:
        if not 1 <= gas <= MOST_GAS:
            raise BadBegin(f"no bubble begins with the gas {gas}")


def require_gas(num, den):
    """Refuse gas that is out of its bounds."""
    if not (1 <= num <= MOST_GAS and 1 <= den <= MOST_DEN):
        raise BadGas(f"{num} parted by {den} is out of the bounds of gas")


def require_time(num, den):
    """Refuse hours that are out of their bounds."""
    if not (0 <= num <= MOST_HOURS and 1 <= den <= MOST_DEN):
        raise BadTime(f"{num} parted by {den} is out of the bounds of hours")


class Froth:
    """A froth, its day-book and the ledgers of all its bubbles."""

    def __init__(self, rows, cols, gases):
        """Begin a froth as a comb; gases are whole numbers, one for each bubble."""
        require_begin(rows, cols, gases)
        many = rows * cols
        # Twins share what these attributes hold: it is never changed, only replaced.
        self.films = comb(rows, cols)
        self.owners = owners_of(self.films, {6 * name: name for name in range(many)})
        self.now = NOUGHT
        self.ledgers = ledgers_behind({}, NOUGHT, self.owners, {name: (gases[name], 1) for name in range(many)})
        self.day_book = []
        self.next_film = NEW_FILMS * many

    def deed(self, order):
        """Do what an order tells, and tell the rows that this writes into the day-book."""
        match order:
            case ("push", film):
                rows = self.turn(pushed(self.films, film), "push", film)
            case ("pull", film):
                rows = self.turn(pulled(self.films, film), "pull", film)
            case ("burst", film):
                rows = self.let_burst(film)
            case ("part", one, two, num, den):
                rows = self.part(one, two, num, den)
            case ("blow", end, num, den):
                rows = self.blow(end, num, den)
            case ("wait", num, den):
                rows = self.wait(num, den)
            case _:
                raise NoOrder("a froth does no such order")
        self.day_book = self.day_book + rows
        return rows

    def settle(self, web, owners, gases):
        """Take over the web that came of a deed, its owners, and the gases that the deed gives."""
        self.ledgers = ledgers_behind(self.ledgers, self.now, owners, gases)
        self.films = web
        self.owners = owners

    def turn(self, web, word, film):
        """Take over the web in which a film was pushed or pulled."""
        self.settle(web, owners_turned(self.owners, web, film), {})
        return [(self.now, word, film)]

    def let_burst(self, film):
        """Let a film burst by an order."""
        web = burst(self.films, film)
        hands = (self.owners[2 * film], self.owners[2 * film + 1])
        kept = min(hands)
        gone = max(hands)
        both = plus(self.gas(kept), self.gas(gone))
        self.settle(web, owners_joined(self.owners, web, gone, kept), {kept: both})
        return [(self.now, "burst", film, gone, kept)]

    def require_room(self):
        """Refuse one more bubble where there are as many as there may be."""
        if len(self.bubbles()) >= MOST_BUBBLES:
            raise Full(f"there are {MOST_BUBBLES} bubbles already")

    def part(self, one, two, num, den):
        """Part a bubble and give num / den of its gas to the new piece."""
        web = parted(self.films, one, two, self.next_film)
        require_gas(num, den)
        given = amount(num, den)
        old = self.owners[one]
        left = minus(self.gas(old), given)
        if not below(NOUGHT, left):
            raise BadGas(f"bubble {old} hasn't more gas than {num} parted by {den}")
        self.require_room()
        new = len(self.ledgers)
        self.settle(web, owners_parted(self.owners, web, one, two, new), {old: left, new: given})
        self.next_film += NEW_FILMS
        return [(self.now, "part", old, new)]

    def blow(self, end, num, den):
        """Blow a bubble with num / den of gas at the corner of an end."""
        web = blown(self.films, end, self.next_film)
        require_gas(num, den)
        self.require_room()
        new = len(self.ledgers)
        self.settle(web, owners_blown(self.owners, web, self.next_film, new), {new: amount(num, den)})
        self.next_film += NEW_FILMS
        return [(self.now, "blow", new)]

    def wait(self, num, den):
        """Let num / den hours go by, and with them whoever has no gas left."""
        require_time(num, den)
        last = plus(self.now, amount(num, den))
        rows = []
        first = self.next_to_go()
        while first is not None and not below(last, plus(self.now, first[0])):
            self.now = plus(self.now, first[0])
            rows.append(self.let_go(first[1]))
            first = self.next_to_go()
        self.now = last
        return rows

    def let_go(self, gone):
        """Let a bubble go that has no gas left, and tell its row of the day-book."""
        film, kept = way_out(self.owners, gone)
        web = burst(self.films, film)
        self.settle(web, owners_joined(self.owners, web, gone, kept), {})
        return (self.now, "gone", film, gone, kept)

    def hour(self):
        """The hour that it is, an amount."""
        return self.now

    def bubbles(self):
        """The names of all bubbles, rising."""
        return sorted([name for name in self.ledgers if is_there(self.ledgers[name])])

    def last_row(self, name):
        """The last row in the ledger of a bubble that is."""
        if name not in self.ledgers or not is_there(self.ledgers[name]):
            raise NoBubble(f"there is no bubble {name}")
        return self.ledgers[name][-1]

    def gas(self, name):
        """The gas of a bubble, an amount."""
        return gas_by_row(self.last_row(name), self.now)

    def sides(self, name):
        """The number of a bubble's sides."""
        return self.last_row(name)[2]

    def bubble_of(self, end):
        """The name of the bubble on whose rim an end lies."""
        require_end(self.owners, end)
        return self.owners[end]

    def web(self):
        """The web."""
        return dict(self.films)

    def total(self):
        """The gas of all bubbles together."""
        together = NOUGHT
        for name in self.bubbles():
            together = plus(together, self.gas(name))
        return together

    def next_to_go(self):
        """The first to go from now on, as a pair (hours, name), or None."""
        return first_to_go([(name, self.gas(name), self.sides(name)) for name in self.bubbles()])

    def book(self):
        """All rows of the day-book."""
        return list(self.day_book)

    def ledger(self, name):
        """The rows of a bubble that is or was."""
        if name not in self.ledgers:
            raise NoBubble(f"there never was a bubble {name}")
        return list(self.ledgers[name])

    def gas_at(self, name, hour):
        """The gas of a bubble at an hour at which it was."""
        rows = self.ledger(name)
        last = self.now if is_there(rows) else rows[-1][0]
        if below(hour, rows[0][0]) or below(last, hour):
            raise NoHour(f"bubble {name} was not there at this hour")
        reached = [row for row in rows if not below(hour, row[0])]
        return gas_by_row(reached[-1], hour)

    def picture(self):
        """The corners, and the pairs of the least end and the gas of each bubble."""
        least = [ends[0] for ends in rims(self.films)]
        return (corners(self.films), [(end, self.gas(self.owners[end])) for end in least])

    def twin(self):
        """Another froth that is as this one now and goes its own way."""
        made = Froth(1, 1, [1])
        made.films = self.films
        made.owners = self.owners
        made.now = self.now
        made.ledgers = self.ledgers
        made.day_book = self.day_book
        made.next_film = self.next_film
        return made
