"""The refusals of Polyarith."""


class PolyError(ValueError):
    """Any refusal."""


class NoNumber(PolyError):
    """Something that is no whole number stands where one belongs."""


class NoPower(PolyError):
    """A count below nought."""


class ByNought(PolyError):
    """A division by nought."""


class NotWhole(PolyError):
    """A quotient that no polynomial of whole numbers is."""


class NoMeet(PolyError):
    """Two noughts do not meet."""


class NoParts(PolyError):
    """Nought has no parts."""


class NotWritten(PolyError):
    """A text that is not how a polynomial is written."""
