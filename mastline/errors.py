"""The refusals."""


class MastError(ValueError):
    pass


class NoMast(MastError):
    pass
