"""The refusals: one class for each, all right under BookError."""


class BookError(ValueError):
    pass


class OutOfRange(BookError):
    pass


class KnownReferee(BookError):
    pass


class TooManyReferees(BookError):
    pass


class UnknownReferee(BookError):
    pass


class TooManyMatches(BookError):
    pass


class SameClub(BookError):
    pass


class NoSuchMatch(BookError):
    pass


class NoSuchRound(BookError):
    pass


class RoundOver(BookError):
    pass


class SeasonOver(BookError):
    pass


class AwayAlready(BookError):
    pass


class DrawnUp(BookError):
    pass


class NotDrawn(BookError):
    pass


class NothingToTakeBack(BookError):
    pass


class TooManyDeeds(BookError):
    pass
