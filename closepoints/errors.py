"""The refusals: one class each, all of them under NearError."""


class NearError(ValueError):
    pass


class NoPoints(NearError):
    pass


class NoWay(NearError):
    pass


class NoPlace(NearError):
    pass


class NoBound(NearError):
    pass


class NoNumber(NearError):
    pass


class TooMany(NearError):
    pass


class NoPaper(NearError):
    pass


class NoText(NearError):
    pass


class NoForm(NearError):
    pass


class NoneYet(NearError):
    pass
