"""What a competition keeps: its skaters and their programs."""

SHORT = 0
FREE = 1


class Telling:
    """An element as it was told in a program."""

    def __init__(self, second, element, grades):
        self.second = second
        self.element = element
        self.grades = grades


class Program:
    """A program, short or free, as far as it has been told."""

    def __init__(self, skater, free):
        self.skater = skater
        self.free = free
        self.tellings = []
        # Of each component the judges' quarters; none, as long as they aren't told.
        self.marks = []
        self.falls = 0
        self.off = 0
        self.seconds = 0


class Competition:
    """One competition."""

    def __init__(self, judges, short, free):
        self.judges = judges
        # By segment.
        self.factors = (short, free)
        # Of each skater, by number: what the programs that are over came to, by segment.
        self.skated = []
        # The program that's being skated.
        self.program = None
