"""What each element is worth in its program, and what its grades go by."""

from skatingmarks.counting import those_that_count
from skatingmarks.figures import JUMPS
from skatingmarks.repeating import GoneBy
from skatingmarks.worths import hundredths

# By segment: how many of the last elements of jumps are worth more in the second half.
MOST_LATE = (1, 3)
LATE_SHARE = 110


class Value:
    """What an element is worth, and what its grades go by."""

    def __init__(self, worth, goes_by):
        self.worth = worth
        self.goes_by = goes_by


def values_of(tellings, free):
    """Of each element told, in order, its value in this program."""
    counted = those_that_count(tellings, free)
    gone_by = GoneBy(free)
    found = []
    for telling, counts in zip(tellings, counted):
        found.append(value_of(telling.element, counts, gone_by))
    for place in late_places(tellings, counted, free):
        value = found[place]
        value.worth = hundredths(LATE_SHARE, value.worth)
    return found


def value_of(element, counts, gone_by):
    """One element's value, without what the second half adds."""
    if not counts:
        return Value(0, 0)
    if element.group == JUMPS:
        return value_of_jumps(element.jumps, gone_by)
    return Value(element.worth, element.worth)


def value_of_jumps(jumps, gone_by):
    """The value of an element of jumps that counts."""
    in_row = len(jumps) >= 2
    worth = 0
    goes_by = 0
    for jump in jumps:
        share = gone_by.take(jump, in_row)
        worth = worth + hundredths(share, jump.worth)
        if share > 0:
            goes_by = max(goes_by, jump.worth)
    return Value(worth, goes_by)


def late_places(tellings, counted, free):
    """Where the elements stand that the second half makes worth more."""
    late = []
    for place, telling in enumerate(tellings):
        if counted[place] and telling.second == 1 and telling.element.group == JUMPS:
            late.append(place)
    return late[-MOST_LATE[free]:]
