"""The refusals of the program."""


class HallError(ValueError):
    pass


class EmptyPile(HallError):
    pass
