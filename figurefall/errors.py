"""The refusals, in the order in which they are made where more than one is due."""


class FallError(ValueError):
    pass


class NotKept(FallError):
    pass


class NameTaken(FallError):
    pass


class HouseFull(FallError):
    pass


class BadBase(FallError):
    pass


class BadFigure(FallError):
    pass


class BadRow(FallError):
    pass


class BadWorth(FallError):
    pass


class BadNumber(FallError):
    pass


class NoRing(FallError):
    pass


class NoPlace(FallError):
    pass


class BadLength(FallError):
    pass


class BadTarget(FallError):
    pass


class NothingTold(FallError):
    pass
