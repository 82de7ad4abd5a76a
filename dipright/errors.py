"""The refusals: one class for each, all under DiprightError."""


class DiprightError(ValueError):
    pass


class BadNumber(DiprightError):
    pass


class BadFact(DiprightError):
    pass


class BadText(DiprightError):
    pass


class Late(DiprightError):
    pass


class Taken(DiprightError):
    pass


class NoFact(DiprightError):
    pass


class NoDeed(DiprightError):
    pass


class NoVein(DiprightError):
    pass


class NoClaim(DiprightError):
    pass


class OutOfGround(DiprightError):
    pass
