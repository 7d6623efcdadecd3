"""The classes of refusals: one for each, all straight under CoverError."""


class CoverError(ValueError):
    pass


class NoStock(CoverError):
    pass


class NoOffer(CoverError):
    pass


class NoThing(CoverError):
    pass


class NoCover(CoverError):
    pass


class NoPaper(CoverError):
    pass


class NoNumber(CoverError):
    pass


class NotFull(CoverError):
    pass


class NotInRow(CoverError):
    pass


class NoText(CoverError):
    pass


class NoRow(CoverError):
    pass


class TooMany(CoverError):
    pass
