"""The refusals of the program."""


# The base of all refusals, so that a caller can take any of them by one name.
class PairError(ValueError):
    pass


# Some list of wishes names a number that the other side doesn't have.
class NoSuch(PairError):
    pass


# Some list of wishes names a number more than once.
class Twice(PairError):
    pass
