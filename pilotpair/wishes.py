"""What one pilot or one boat would rather have, by its list of wishes."""


def rather(wishes, one, other):
    # Who isn't in the list is never taken, not even by one who is alone.
    if one not in wishes:
        return False
    # None stands for being alone; nought is a number like any other.
    if other is None:
        return True
    return other in wishes[wishes.index(one) + 1:]
