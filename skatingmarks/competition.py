"""What a competition keeps: its skaters and their programs."""


class Telling:
    """An element as it was told in a program."""

    def __init__(self, second, element, grades):
        self.second = second
        self.element = element
        self.grades = grades


class Program:
    """A program, short (0) or free (1), as far as it has been told."""

    def __init__(self, skater, free):
        self.skater = skater
        self.free = free
        self.tellings = []
        self.marks = []


class Competition:
    """One competition."""

    def __init__(self, judges, short, free):
        self.judges = judges
        self.short_factor = short
        self.free_factor = free
        # Of each skater, by number: the programs that are over, by segment.
        self.skated = []
        # The program that's being skated.
        self.program = None
