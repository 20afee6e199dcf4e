"""Who goes first, and when."""

from frothwane.amounts import amount, below

STEADY_SIDES = 6
NO_HOURS = (0, 1)


def hours_left(gas, sides):
    """The hours till a bubble has no gas left, or None where that never comes."""
    num, den = gas
    if num == 0:
        return NO_HOURS
    if sides >= STEADY_SIDES:
        return None
    return amount(num, den * (STEADY_SIDES - sides))


def goes_before(one, two):
    """Whether of two pairs (hours, name) the first one goes before the second one."""
    if one[0] == two[0]:
        return one[1] < two[1]
    return below(one[0], two[0])


def first_to_go(rows):
    """The pair (hours, name) of the first to go of rows (name, gas, sides), or None."""
    first = None
    for name, gas, sides in rows:
        hours = hours_left(gas, sides)
        if hours is not None:
            pair = (hours, name)
            if first is None or goes_before(pair, first):
                first = pair
    return first
