"""The refusals of the hall."""


class HallError(ValueError):
    pass


class NoLine(HallError):
    pass


class NoBook(HallError):
    pass
