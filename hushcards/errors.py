"""The refusals of the program: each has a class of its own, so that it can be taken by name."""


class CardError(ValueError):
    pass


class NoPlan(CardError):
    pass


class NoWay(CardError):

    def __init__(self, seen):
        CardError.__init__(self, f"there is no way for {seen!r}")
        self.seen = seen


class NoEnd(CardError):
    pass


class NoFormula(CardError):
    pass


class TooMany(CardError):
    pass


class NoName(CardError):
    pass


class BadNote(CardError):
    pass
