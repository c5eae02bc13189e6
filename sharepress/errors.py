"""The refusals of the program, one class for each."""


class PressError(ValueError):
    pass


class BadModel(PressError):
    pass


class NoShare(PressError):
    pass


class NoBit(PressError):
    pass


class NoBox(PressError):
    pass


class NoLine(PressError):
    pass
