"""The refusals of the program, one class for each kind."""


class FrothError(ValueError):
    """Any refusal."""


class BadBegin(FrothError):
    """A froth can't begin with these rows, columns and gases."""


class NoFilm(FrothError):
    """There is no film with this number."""


class NoEnd(FrothError):
    """There is no end with this number."""


class Looped(FrothError):
    """The film leads back to its own corner, so it can't be pushed or pulled."""


class OneBubble(FrothError):
    """The film has the same bubble on both hands, so it can't burst."""


class NotOne(FrothError):
    """The two ends of a parting lie on two rims."""


class SameFilm(FrothError):
    """The two ends of a parting are of one film."""


class BadGas(FrothError):
    """The gas is out of its bounds, or the bubble hasn't more than that."""


class Full(FrothError):
    """The froth has no room for one more bubble."""


class BadTime(FrothError):
    """The hours to wait are out of their bounds."""


class NoBubble(FrothError):
    """No bubble has this name."""


class NoHour(FrothError):
    """The bubble was not there at this hour."""


class NoOrder(FrothError):
    """The text is no order."""


class NoBack(FrothError):
    """There is no order to take back."""


class NoForth(FrothError):
    """There is no order to do again."""


class NoStand(FrothError):
    """The log has no stand with this number."""
