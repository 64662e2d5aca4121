"""The refusals of the program."""


# Whoever wants to take every refusal at once takes this one.
class MendError(ValueError):
    pass


# A change meets a row, or another change, that it is not told for.
class NoFit(MendError):
    pass


# Some notes are none that a change is written as.
class NoChange(MendError):
    pass
