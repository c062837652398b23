"""What one pilot or one boat would rather have, and which wishes are refused."""
from pilotpair.errors import NoSuch, Twice


def rather(wishes, one, other):
    # Who isn't in the list is never taken, not even by one who is alone.
    if one not in wishes:
        return False
    # None stands for being alone; nought is a number like any other.
    if other is None:
        return True
    return other in wishes[wishes.index(one) + 1:]


def refuse_no_such(side, others):
    for wishes in side:
        for number in wishes:
            if number < 0 or number >= others:
                raise NoSuch("a list names a number that the other side does not have")


def refuse_twice(side):
    for wishes in side:
        if len(set(wishes)) < len(wishes):
            raise Twice("a list names a number twice")


def refuse_wrong(pilots, boats):
    # NoSuch comes before Twice over all lists, so both sides are first looked through for it.
    refuse_no_such(pilots, len(boats))
    refuse_no_such(boats, len(pilots))
    refuse_twice(pilots)
    refuse_twice(boats)
