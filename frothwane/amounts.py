"""Amounts: pairs (num, den) in lowest terms, den at least 1."""


def common_divisor(one, two):
    """The greatest whole number that divides both; not both are 0."""
    one = abs(one)
    two = abs(two)
    while two > 0:
        one, two = two, one % two
    return one


def amount(num, den):
    """The amount of num parted by den, which may be below 0 but is never 0."""
    divisor = common_divisor(num, den)
    # A divisor below 0 moves the sign from den to num.
    if den < 0:
        divisor = -divisor
    return (num // divisor, den // divisor)


def plus(one, other):
    """Both amounts together."""
    return amount(one[0] * other[1] + other[0] * one[1], one[1] * other[1])


def minus(one, other):
    """What is left of the one amount without the other."""
    return amount(one[0] * other[1] - other[0] * one[1], one[1] * other[1])


def times(one, many):
    """The amount so many times, many a whole number of either sign."""
    return amount(one[0] * many, one[1])


def below(one, other):
    """True where the one amount is less than the other, else False."""
    return one[0] * other[1] < other[0] * one[1]


def shown_amount(one):
    """The text of an amount: `7/2`, or `-3` where den is 1."""
    num, den = one
    if den == 1:
        return str(num)
    return f"{num}/{den}"
