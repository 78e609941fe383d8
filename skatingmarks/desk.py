"""The desk where a competition's calls are answered or refused."""

from skatingmarks.competition import FREE, SHORT, Competition, Program, Telling
from skatingmarks.placing import places_of, standings_in_all, standings_in_segment
from skatingmarks.reading import check_text, element_of
from skatingmarks.refusals import DoesNotFit, NoRoom, NothingOpen, StillSkating, WrongValue
from skatingmarks.scoring import outcome_of

MOST_SKATERS = 30
MOST_TELLINGS = 20
MOST_FALLS = 20
MOST_POINTS_OFF = 20
MOST_SECONDS = 300


class Desk:
    """Takes the calls on one object; each answers its numbers as a list."""

    def __init__(self):
        self.competition = None

    def begin(self, judges, short, free):
        """A new competition in the place of what was."""
        check_number(judges, 3, 9)
        check_number(short, 1, 1000)
        check_number(free, 1, 1000)
        self.competition = Competition(judges, short, free)
        return [0]

    def add_skater(self):
        """One skater more."""
        if self.competition is None:
            raise NothingOpen()
        skated = self.competition.skated
        if len(skated) == MOST_SKATERS:
            raise NoRoom()
        skated.append({})
        return [len(skated) - 1]

    def read(self, text):
        """What a text says; a competition has no part in it."""
        check_text(text)
        return element_of(text).described()

    def start(self, skater, free):
        """A skater's program begins."""
        over = self.skated_by(skater, free)
        if self.competition.program is not None:
            raise StillSkating()
        if free in over or (free == FREE and SHORT not in over):
            raise DoesNotFit()
        self.competition.program = Program(skater, free)
        return [0]

    def tell_element(self, second, text, grades):
        """The next element of the program."""
        program = self.open_program()
        check_text(text)
        check_number(second, 0, 1)
        check_row(grades, self.competition.judges, -5, 5)
        element = element_of(text)
        if len(program.tellings) == MOST_TELLINGS:
            raise NoRoom()
        program.tellings.append(Telling(second, element, grades))
        return [len(program.tellings) - 1]

    def tell_marks(self, one, two, three):
        """The components' marks, in the place of those told before."""
        program = self.open_program()
        for row in (one, two, three):
            check_row(row, self.competition.judges, 1, 40)
        program.marks = [one, two, three]
        return [0]

    def tell_faults(self, falls, off, seconds):
        """What points are taken off for, in the place of what was told before."""
        program = self.open_program()
        check_number(falls, 0, MOST_FALLS)
        check_number(off, 0, MOST_POINTS_OFF)
        check_number(seconds, 0, MOST_SECONDS)
        program.falls = falls
        program.off = off
        program.seconds = seconds
        return [0]

    def end(self):
        """The program is over, and has its score."""
        program = self.open_program()
        if len(program.marks) == 0:
            raise DoesNotFit()
        outcome = outcome_of(program, self.competition.factors[program.free])
        self.competition.skated[program.skater][program.free] = outcome
        self.competition.program = None
        return [outcome.score, outcome.came_to, outcome.components, outcome.taken_off]

    def sheet(self, skater, free):
        """What each element of a program that's over came to."""
        over = self.skated_by(skater, free)
        if free not in over:
            raise DoesNotFit()
        judged = over[free].judged
        answer = [len(judged)]
        for worth, made in judged:
            answer.extend([worth, made])
        return answer

    def segment_places(self, free):
        """The places in a segment."""
        check_number(free, SHORT, FREE)
        return places_of(standings_in_segment(self.skated_by_each(), free))

    def places_in_all(self):
        """The places in all."""
        return places_of(standings_in_all(self.skated_by_each()))

    def skated_by(self, skater, free):
        """What a skater has skated; no such skater or segment is refused."""
        check_number(free, SHORT, FREE)
        skated = self.skated_by_each()
        check_number(skater, 0, len(skated) - 1)
        return skated[skater]

    def skated_by_each(self):
        """What each skater has skated; ahead of any competition there's none."""
        if self.competition is None:
            return []
        return self.competition.skated

    def open_program(self):
        """The program that's being skated."""
        if self.competition is None or self.competition.program is None:
            raise NothingOpen()
        return self.competition.program


def check_number(number, least, most):
    """Refuses a number outside its bounds."""
    if not least <= number <= most:
        raise WrongValue()


def check_row(row, judges, least, most):
    """Refuses a row that isn't one number of each judge, within the bounds."""
    if len(row) != judges:
        raise WrongValue()
    for number in row:
        check_number(number, least, most)
