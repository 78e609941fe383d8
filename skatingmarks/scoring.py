"""What a program comes to."""

from skatingmarks.marking import components_make, grades_make
from skatingmarks.valuing import values_of

POINT = 100
SECONDS_A_POINT = 5


class Outcome:
    """What a program that's over came to."""

    def __init__(self, judged, components, taken_off):
        # Of each element told, in order: its worth, and what its grades make.
        self.judged = judged
        self.came_to = sum([worth + made for worth, made in judged])
        self.components = components
        self.taken_off = taken_off
        self.score = max(self.came_to + components - taken_off, 0)


def outcome_of(program, factor):
    """What a program comes to, with the factor of its segment."""
    judged = judged_tellings(program)
    components = components_make(program.marks, factor)
    return Outcome(judged, components, points_off(program.falls, program.off, program.seconds))


def judged_tellings(program):
    """Of each element told, in order: its worth, and what its grades make."""
    found = []
    for telling, value in zip(program.tellings, values_of(program.tellings, program.free)):
        found.append((value.worth, grades_make(telling.grades, value.goes_by)))
    return found


def points_off(falls, off, seconds):
    """What's taken off, in hundredths of a point."""
    # Each fall costs a point, the third and those behind it one more, the fifth and so on another.
    for_falls = falls + max(falls - 2, 0) + max(falls - 4, 0)
    # Five seconds are charged once they've begun.
    for_seconds = (seconds + SECONDS_A_POINT - 1) // SECONDS_A_POINT
    return POINT * (for_falls + off + for_seconds)
