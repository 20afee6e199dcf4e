"""What a deed changes beside the web: whose ends are whose, and the ledgers."""

from frothwane.amounts import minus, plus, times
from frothwane.hours import STEADY_SIDES
from frothwane.web import other, rims

NOUGHT = (0, 1)


def owners_of(web, known):
    """The name of the bubble of each end, where on each rim it is known for some end."""
    owners = {}
    for ends in rims(web):
        names = [known[end] for end in ends if end in known]
        for end in ends:
            owners[end] = names[0]
    return owners


def owners_turned(owners, web, film):
    """The owners behind a push or pull: only the ends of the film change bubbles."""
    return owners_of(web, {end: owners[end] for end in owners if end // 2 != film})


def owners_joined(owners, web, gone, kept):
    """The owners behind a bursting, which leaves each end that is left along its old bubble."""
    return {end: kept if owners[end] == gone else owners[end] for end in web}


def owners_parted(owners, web, one, two, new):
    """The owners behind a parting: the piece of the end two is new."""
    old = owners[one]
    # Of the parted bubble's other ends it is not yet known along which piece they lie.
    known = {end: owners[end] for end in owners if owners[end] != old}
    known[one] = old
    known[two] = new
    return owners_of(web, known)


def owners_blown(owners, web, first, new):
    """The owners behind a blowing with the films from first on."""
    known = dict(owners)
    # Of each new film the end with the odd number lies along the new bubble.
    known[2 * first + 1] = new
    return owners_of(web, known)


def sides_by_name(owners):
    """The sides of each bubble, by its name."""
    sides = {}
    for end in owners:
        name = owners[end]
        sides[name] = sides.get(name, 0) + 1
    return sides


def way_out(owners, name):
    """The film with the least number that parts a bubble from another one, and the name of that one."""
    # Such a film has one end along the bubble, so the least end is that of the least film.
    end = min([one for one in owners if owners[one] == name and owners[other(one)] != name])
    return (end // 2, owners[other(end)])


def gas_by_row(row, hour):
    """The gas at an hour of a bubble for which a row of its ledger still holds."""
    since, gas, sides = row
    return plus(gas, times(minus(hour, since), sides - STEADY_SIDES))


def is_there(ledger):
    """Whether the bubble of a ledger still is: as long as it is it has sides."""
    return ledger[-1][2] > 0


def carried_on(ledger, hour, sides, gases, name):
    """The ledger of a bubble behind a deed, with one row more where its sides or its gas became other ones."""
    if not is_there(ledger):
        return ledger
    if name not in sides:
        return ledger + [(hour, NOUGHT, 0)]
    before = gas_by_row(ledger[-1], hour)
    gas = gases.get(name, before)
    if gas == before and sides[name] == ledger[-1][2]:
        return ledger
    return ledger + [(hour, gas, sides[name])]


def ledgers_behind(ledgers, hour, owners, gases):
    """The ledgers by name behind a deed; gases are those that the deed gives, by name."""
    sides = sides_by_name(owners)
    made = {name: carried_on(ledgers[name], hour, sides, gases, name) for name in ledgers}
    for name in sides:
        if name not in made:
            made[name] = [(hour, gases[name], sides[name])]
    return made
