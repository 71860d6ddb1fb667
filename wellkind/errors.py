"""The refusals: each has a class of its own, and all stand under KindError."""


class KindError(ValueError):
    pass


class NoPart(KindError):
    pass


class BadKind(KindError):
    pass


class Stuck(KindError):
    pass


class Tired(KindError):
    pass


class NoLine(KindError):
    pass
