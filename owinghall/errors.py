"""The refusals, each a class of its own straight under OwingError."""


class OwingError(ValueError):
    pass


class BadWeb(OwingError):
    pass


class Parted(OwingError):
    pass


class BadStanding(OwingError):
    pass


class BadHouse(OwingError):
    pass


class BadOrder(OwingError):
    pass


class BadNumber(OwingError):
    pass


class TooWide(OwingError):
    pass


class NoBridge(OwingError):
    pass


class NoText(OwingError):
    pass
