"""The errors of the package; each one derives directly from GateError."""


class GateError(ValueError):
    """What every error of the package is."""

    def told(self):
        return "refused gateerror"


class BadCount(GateError):
    """A number, or a number of things, lies outside its limits."""

    def __init__(self, what, count):
        self.what = what
        self.count = count

    def told(self):
        return "refused badcount"


class NoOrder(GateError):
    """A sequence does not name each thing exactly once."""

    def told(self):
        return "refused noorder"


class NoGate(GateError):
    """There is no gate with this index."""

    def __init__(self, index):
        self.index = index

    def told(self):
        return "refused nogate"


class NotBest(GateError):
    """An order that had to be best is not."""

    def told(self):
        return "refused notbest"


class NoName(GateError):
    """A name is not valid."""

    def __init__(self, name):
        self.name = name

    def told(self):
        return "refused noname"


class NoEntry(GateError):
    """A name is not in use."""

    def __init__(self, name):
        self.name = name

    def told(self):
        return "refused noentry"


class Empty(GateError):
    """There are no gates."""

    def told(self):
        return "refused empty"


class NoBack(GateError):
    """There is nothing to undo."""

    def told(self):
        return "refused noback"


class BadText(GateError):
    """A text is malformed at this place."""

    def __init__(self, place):
        self.place = place

    def told(self):
        return "refused badtext"
