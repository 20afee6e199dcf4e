"""A froth told a second time, to hold the program against.

Nothing here calls the program but by `asked`. Bubbles are lists of ends by name, gas is a Fraction that is carried
on from moment to moment, and gas at an hour is looked up in a history of the whole froth, not in a ledger.
"""

from copy import deepcopy
from fractions import Fraction

from tests.deeds import corner_at, is_looped, lost_films, with_ahead, without
from tests.helpers import walked_rims, web_of

NOUGHT = Fraction(0)


def pair(number):
    """A Fraction as an amount."""
    return (number.numerator, number.denominator)


def comb_corners(rows, cols):
    """The corners of a comb, by the words of point 6."""
    found = []
    for i in range(rows):
        for j in range(cols):
            k = i * cols + j
            m = i * cols + (j + cols - 1) % cols
            n = (i + rows - 1) % rows * cols + j
            found += [(6 * k, 6 * k + 2, 6 * k + 4), (6 * k + 1, 6 * m + 3, 6 * n + 5)]
    return found


class Refused(Exception):
    """A refusal, with the name of its class."""


class Model:
    def __init__(self, rows, cols, gases):
        rims = walked_rims(web_of(comb_corners(rows, cols)))
        self.rims = {name: [ends for ends in rims if 6 * name in ends][0] for name in range(rows * cols)}
        self.gases = {name: Fraction(gases[name]) for name in self.rims}
        self.hour = NOUGHT
        self.book = []
        self.next_name = rows * cols
        self.next_film = 3 * rows * cols
        self.ledgers = {name: [(NOUGHT, self.gases[name], 6)] for name in self.rims}
        # What the froth was like from an hour on: (hour, gases, sides), each behind one change.
        self.history = [self.moment()]

    def moment(self):
        return (self.hour, dict(self.gases), self.sides())

    def sides(self):
        return {name: len(ends) for name, ends in self.rims.items()}

    def web(self):
        web = {}
        for ends in self.rims.values():
            for at, end in enumerate(ends):
                web[end ^ 1] = ends[(at + 1) % len(ends)]
        return web

    def owner(self, end):
        return [name for name, ends in self.rims.items() if end in ends][0]

    def from_end(self, end):
        """The rim of an end, from that end on."""
        ends = self.rims[self.owner(end)]
        at = ends.index(end)
        return ends[at:] + ends[:at]

    def edit(self, change, *rest):
        """Change all rims by a function over a list of rims that keeps their order and their number."""
        names = list(self.rims)
        rows = change([self.rims[name] for name in names], *rest)
        assert len(rows) == len(names)
        self.rims = dict(zip(names, rows))

    def settle(self, old_sides, old_gases):
        """Write the ledgers and the history behind one change."""
        sides = self.sides()
        for name in {**old_sides, **sides}:
            if name not in sides:
                self.ledgers[name].append((self.hour, NOUGHT, 0))
            elif name not in old_sides:
                self.ledgers[name] = [(self.hour, self.gases[name], sides[name])]
            elif (sides[name], self.gases[name]) != (old_sides[name], old_gases[name]):
                self.ledgers[name].append((self.hour, self.gases[name], sides[name]))
        self.history.append(self.moment())

    def deed(self, order):
        word, *rest = order
        rows = getattr(self, word)(*rest)
        self.book += rows
        return rows

    def need_film(self, film):
        if 2 * film not in self.web():
            raise Refused("NoFilm")

    def turn(self, word, film):
        self.need_film(film)
        web = self.web()
        if is_looped(web, film):
            raise Refused("Looped")
        low, high = 2 * film, 2 * film + 1
        beyond_low, beyond_high = corner_at(web, low)[2], corner_at(web, high)[2]
        old = self.sides(), dict(self.gases)
        self.edit(without, (low, high))
        ahead_of_low, ahead_of_high = (beyond_high, beyond_low) if word == "push" else (beyond_low, beyond_high)
        self.edit(with_ahead, ahead_of_low, low)
        self.edit(with_ahead, ahead_of_high, high)
        self.settle(*old)
        return [(pair(self.hour), word, film)]

    def push(self, film):
        return self.turn("push", film)

    def pull(self, film):
        return self.turn("pull", film)

    def join(self, film, gone, kept):
        """Take a film away; the bubble gone becomes part of the bubble kept."""
        web = self.web()
        lost = [2 * number + side for number in lost_films(web, film) for side in (0, 1)]
        joined = self.from_end(2 * film)[1:] + self.from_end(2 * film + 1)[1:]
        del self.rims[gone]
        del self.gases[gone]
        self.rims[kept] = joined
        self.edit(without, lost)

    def burst(self, film):
        self.need_film(film)
        one, two = self.owner(2 * film), self.owner(2 * film + 1)
        if one == two:
            raise Refused("OneBubble")
        old = self.sides(), dict(self.gases)
        kept, gone = sorted([one, two])
        self.gases[kept] += self.gases[gone]
        self.join(film, gone, kept)
        self.settle(*old)
        return [(pair(self.hour), "burst", film, gone, kept)]

    def part(self, one, two, num, den):
        web = self.web()
        if one not in web or two not in web:
            raise Refused("NoEnd")
        if self.owner(one) != self.owner(two):
            raise Refused("NotOne")
        if one // 2 == two // 2:
            raise Refused("SameFilm")
        name = self.owner(one)
        if not 1 <= num <= 1000000 or not 1 <= den <= 60 or Fraction(num, den) >= self.gases[name]:
            raise Refused("BadGas")
        if len(self.rims) > 59:
            raise Refused("Full")
        old = self.sides(), dict(self.gases)
        ends = self.from_end(one)
        at = ends.index(two)
        new = 2 * self.next_film
        self.rims[name] = [one, new + 4, new + 2] + ends[at + 1:]
        self.rims[self.next_name] = [two, new + 5, new] + ends[1:at]
        self.edit(with_ahead, one ^ 1, new + 1)
        self.edit(with_ahead, two ^ 1, new + 3)
        self.gases[name] -= Fraction(num, den)
        return self.arrived(old, Fraction(num, den), ("part", name, self.next_name))

    def blow(self, end, num, den):
        web = self.web()
        if end not in web:
            raise Refused("NoEnd")
        if not 1 <= num <= 1000000 or not 1 <= den <= 60:
            raise Refused("BadGas")
        if len(self.rims) > 59:
            raise Refused("Full")
        old = self.sides(), dict(self.gases)
        first, second, third = corner_at(web, end)
        new = 2 * self.next_film
        self.edit(with_ahead, second, new)
        self.edit(with_ahead, third, new + 2)
        self.edit(with_ahead, first, new + 4)
        self.rims[self.next_name] = [new + 1, new + 5, new + 3]
        return self.arrived(old, Fraction(num, den), ("blow", self.next_name))

    def arrived(self, old, gas, row):
        """Settle a deed by which a bubble came."""
        self.gases[self.next_name] = gas
        self.next_name += 1
        self.next_film += 3
        self.settle(*old)
        return [(pair(self.hour), *row)]

    def pass_by(self, hours):
        for name, many in self.sides().items():
            self.gases[name] += hours * (many - 6)
        self.hour += hours

    def leaving(self):
        """All (hours, name) of those that wane or have no gas."""
        sides = self.sides()
        found = [(NOUGHT, name) for name in sides if self.gases[name] == 0]
        return found + [(self.gases[name] / (6 - many), name) for name, many in sides.items() if many < 6]

    def wait(self, num, den):
        if not 0 <= num <= 100000000000 or not 1 <= den <= 60:
            raise Refused("BadTime")
        last = self.hour + Fraction(num, den)
        rows = []
        while self.leaving() and self.hour + min(self.leaving())[0] <= last:
            hours, gone = min(self.leaving())
            self.pass_by(hours)
            assert self.gases[gone] == 0
            owner = {end: name for name, ends in self.rims.items() for end in ends}
            film = min(end // 2 for end in self.rims[gone] if owner[end ^ 1] != gone)
            kept = [owner[2 * film + side] for side in (0, 1) if owner[2 * film + side] != gone][0]
            old = self.sides(), dict(self.gases)
            self.join(film, gone, kept)
            self.settle(*old)
            rows.append((pair(self.hour), "gone", film, gone, kept))
        self.pass_by(last - self.hour)
        return rows

    def gas_at(self, name, hour):
        """The gas at an hour as a Fraction, or None where the bubble was not there."""
        if hour > self.hour or hour < 0:
            return None
        since, gases, sides = [row for row in self.history if row[0] <= hour][-1]
        if name in gases:
            return gases[name] + (hour - since) * (sides[name] - 6)
        went = self.ledgers[name][-1]
        return NOUGHT if went == (hour, NOUGHT, 0) else None

    def asked(self):
        """What `asked` tells of a froth."""
        sides = self.sides()
        web = self.web()
        leaving = min(self.leaving(), default=None)
        least = sorted((min(ends), pair(self.gases[name])) for name, ends in self.rims.items())
        corners = sorted({min(corner_at(web, one) for one in corner_at(web, end)) for end in web})
        return {
            "hour": pair(self.hour),
            "bubbles": sorted(sides),
            "gas": {name: pair(gas) for name, gas in self.gases.items()},
            "sides": sides,
            "web": web,
            "bubble_of": {end: name for name, ends in self.rims.items() for end in ends},
            "total": pair(sum(self.gases.values())),
            "next_to_go": None if leaving is None else (pair(leaving[0]), leaving[1]),
            "book": self.book,
            "ledgers": {
                name: [(pair(hour), pair(gas), many) for hour, gas, many in rows]
                for name, rows in self.ledgers.items()
            },
            "picture": (corners, least),
        }


def asked(froth, names=None):
    """All that can be asked of a froth of the program, but gas at an hour; names are those ever had."""
    if names is None:
        names = range(ever_named(froth))
    web = froth.web()
    # A copy, so that it stays as it was told whatever is done to the froth.
    return deepcopy({
        "hour": froth.hour(),
        "bubbles": froth.bubbles(),
        "gas": {name: froth.gas(name) for name in froth.bubbles()},
        "sides": {name: froth.sides(name) for name in froth.bubbles()},
        "web": web,
        "bubble_of": {end: froth.bubble_of(end) for end in web},
        "total": froth.total(),
        "next_to_go": froth.next_to_go(),
        "book": froth.book(),
        "ledgers": {name: froth.ledger(name) for name in names},
        "picture": froth.picture(),
    })


def ever_named(froth):
    """How many names a froth has had: the least one that has no ledger."""
    name = 0
    while True:
        try:
            froth.ledger(name)
        except ValueError:
            return name
        name += 1
