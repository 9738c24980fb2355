"""The errors of the package: each keeps the values in its brackets under their names."""


class NoHand(LookupError):
    """A number that ought to be a hand is none."""

    def __init__(self, hand):
        self.hand = hand


class NoWire(LookupError):
    """A WIRE that ought to be there is not."""

    def __init__(self, wire):
        # A caller may hand in a list: what an error keeps is a tuple.
        self.wire = tuple(wire)


class NoNumber(LookupError):
    """A number that ought to be a place is none."""

    def __init__(self, number):
        self.number = number


class NoWord(LookupError):
    """A word that nothing is called by."""

    def __init__(self, word):
        self.word = word


class NothingDone(LookupError):
    """There is no deed to take back or to do again."""


class Unfit(ValueError):
    """The values do not fit together."""


class NoPaper(ValueError):
    """There is no paper of the kind that is asked for."""


class BadText(ValueError):
    """Nothing has this text."""


class BadLine(ValueError):
    """The line with this number does not stand where it may."""

    def __init__(self, number):
        self.number = number
