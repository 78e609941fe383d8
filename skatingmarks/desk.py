"""The desk where a competition's calls are answered or refused."""

from skatingmarks.competition import Competition, Program, Telling
from skatingmarks.reading import check_text, element_of
from skatingmarks.refusals import DoesNotFit, NoRoom, NothingOpen, StillSkating, WrongValue

MOST_SKATERS = 30
MOST_TELLINGS = 20


class Desk:
    """Takes the calls on one object; each answers its numbers as a list."""

    def __init__(self):
        self.competition = None

    def begin(self, judges, short, free):
        """A new competition in the place of what was."""
        check_number(judges, 3, 9)
        check_number(short, 1, 1000)
        check_number(free, 1, 1000)
        self.competition = Competition(judges, short, free)
        return [0]

    def add_skater(self):
        """One skater more."""
        if self.competition is None:
            raise NothingOpen()
        skated = self.competition.skated
        if len(skated) == MOST_SKATERS:
            raise NoRoom()
        skated.append({})
        return [len(skated) - 1]

    def read(self, text):
        """What a text says; a competition has no part in it."""
        check_text(text)
        return element_of(text).described()

    def start(self, skater, free):
        """A skater's program begins."""
        check_number(free, 0, 1)
        if self.competition is None:
            raise WrongValue()
        check_number(skater, 0, len(self.competition.skated) - 1)
        if self.competition.program is not None:
            raise StillSkating()
        over = self.competition.skated[skater]
        if free in over or (free == 1 and 0 not in over):
            raise DoesNotFit()
        self.competition.program = Program(skater, free)
        return [0]

    def tell_element(self, second, text, grades):
        """The next element of the program."""
        program = self.open_program()
        check_text(text)
        check_number(second, 0, 1)
        check_row(grades, self.competition.judges, -5, 5)
        element = element_of(text)
        if len(program.tellings) == MOST_TELLINGS:
            raise NoRoom()
        program.tellings.append(Telling(second, element, grades))
        return [len(program.tellings) - 1]

    def tell_marks(self, one, two, three):
        """The components' marks, in the place of those told before."""
        program = self.open_program()
        for row in (one, two, three):
            check_row(row, self.competition.judges, 1, 40)
        program.marks = [one, two, three]
        return [0]

    def open_program(self):
        """The program that's being skated."""
        if self.competition is None or self.competition.program is None:
            raise NothingOpen()
        return self.competition.program


def check_number(number, least, most):
    """Refuses a number outside its bounds."""
    if not least <= number <= most:
        raise WrongValue()


def check_row(row, judges, least, most):
    """Refuses a row that isn't one number of each judge, within the bounds."""
    if len(row) != judges:
        raise WrongValue()
    for number in row:
        check_number(number, least, most)
