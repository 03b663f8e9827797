"""The refusals of the program, one class for each."""


class GrainError(ValueError):
    pass


class BadDays(GrainError):
    pass


class BadRoom(GrainError):
    pass


class BadDealing(GrainError):
    pass


class BadDay(GrainError):
    pass
