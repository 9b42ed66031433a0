"""The refusals: one class for each kind of thing that is none."""


class LineError(ValueError):
    """Any refusal of the program."""


class NoFraction(LineError):
    """No fraction, or one that may not stand here."""


class NoText(LineError):
    """No text of a fraction."""


class NoPoints(LineError):
    """No point, or no list of one to twelve points."""


class NoPrices(LineError):
    """No two prices above 0."""


class NoLine(LineError):
    """No line."""


class NoLines(LineError):
    """No list of one to thirty lines."""


class NoShares(LineError):
    """No list of as many fractions as are asked for here."""


class NoSpread(LineError):
    """Points of one x, or spots of one straight line."""


class NoNumber(LineError):
    """No point's number."""


class NoPlace(LineError):
    """No place."""


class NoBounds(LineError):
    """No bounds of slopes."""


class NoSpots(LineError):
    """No list of one to eight spots."""


class NoPlane(LineError):
    """No plane."""


class NoValues(LineError):
    """No list of one to twenty-four values."""


class NoPair(LineError):
    """No line through two points of unlike x."""


class NoDirections(LineError):
    """No list of one to eight directions."""


class NoDeed(LineError):
    """Nothing to undo."""


class NoRow(LineError):
    """No row that a desk answers."""
