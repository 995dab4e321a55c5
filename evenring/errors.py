"""The refusals, one class for each."""


class RingError(ValueError):
    pass


class BadRing(RingError):
    pass


class BadTolls(RingError):
    pass


class BadMost(RingError):
    pass


class Unlike(RingError):
    pass


class Lacking(RingError):
    def __init__(self, total):
        RingError.__init__(self, total)
        self.total = total


class BadText(RingError):
    pass
