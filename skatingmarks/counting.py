"""Which elements of a program count, by those ahead that count."""

from skatingmarks.figures import JUMPS, SPIN

# By segment (short, free), then by group (jumps, spins, steps, other steps).
MOST_OF_GROUP = ((3, 3, 1, 0), (7, 3, 1, 1))

# By segment.
MOST_ROWS = (1, 3)
MOST_OF_THREE = (0, 1)


def those_that_count(tellings, free):
    """Of each element told, in order, whether it counts."""
    ahead = []
    found = []
    for telling in tellings:
        fits = has_room(telling.element, ahead, free)
        if fits:
            ahead.append(telling.element)
        found.append(fits)
    return found


def has_room(element, ahead, free):
    """Whether an element counts, if these are the ones ahead that do."""
    alike = [other for other in ahead if other.group == element.group]
    if len(alike) >= MOST_OF_GROUP[free][element.group]:
        return False
    if element.group == JUMPS:
        lengths = [len(other.jumps) for other in alike]
        return row_has_room(len(element.jumps), lengths, free)
    if element.group == SPIN:
        return element.name not in [other.name for other in alike]
    return True


def row_has_room(length, lengths, free):
    """Whether so many jumps may be one element, behind those of these lengths."""
    rows = [other for other in lengths if other >= 2]
    if length >= 2 and len(rows) >= MOST_ROWS[free]:
        return False
    return length < 3 or lengths.count(3) < MOST_OF_THREE[free]
