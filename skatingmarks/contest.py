"""The calls of one line, told and answered as one list of whole numbers."""

from skatingmarks.desk import Desk
from skatingmarks.refusals import DoesNotFit, NoRoom, NothingOpen, StillSkating, WrongValue


class UnknownCall(Exception):
    """A call's number that this program doesn't know."""


class Line:
    """The list of calls, taken number by number."""

    def __init__(self, calls):
        self.calls = calls
        self.place = 0

    def is_over(self):
        """Whether no call is left."""
        return self.place == len(self.calls)

    def take_number(self):
        """The next number."""
        self.place = self.place + 1
        return self.calls[self.place - 1]

    def take_row(self):
        """The next row, behind how many numbers it has."""
        first = self.place + 1
        self.place = first + self.calls[self.place]
        return self.calls[first:self.place]


def answers(calls):
    """Of each call how many numbers are answered, then these."""
    line = Line(calls)
    desk = Desk()
    answered = []
    while not line.is_over():
        answer = answer_of(desk, line)
        answered.append(len(answer))
        answered.extend(answer)
    return answered


def answer_of(desk, line):
    """What the next call answers, a refusal's number too."""
    try:
        return call_next(desk, line)
    except WrongValue:
        return [-1]
    except NothingOpen:
        return [-2]
    except StillSkating:
        return [-3]
    except DoesNotFit:
        return [-4]
    except NoRoom:
        return [-5]


def call_next(desk, line):
    """Takes the next call whole, ahead of any refusal, and hands it to the desk."""
    call = line.take_number()
    if call == 1:
        return desk.begin(line.take_number(), line.take_number(), line.take_number())
    if call == 2:
        return desk.add_skater()
    if call == 3:
        return desk.read(line.take_row())
    if call == 4:
        return desk.start(line.take_number(), line.take_number())
    if call == 5:
        return desk.tell_element(line.take_number(), line.take_row(), line.take_row())
    if call == 6:
        return desk.tell_marks(line.take_row(), line.take_row(), line.take_row())
    if call == 7:
        return desk.tell_faults(line.take_number(), line.take_number(), line.take_number())
    if call == 8:
        return desk.end()
    if call == 9:
        return desk.sheet(line.take_number(), line.take_number())
    if call == 10:
        return desk.segment_places(line.take_number())
    if call == 11:
        return desk.places_in_all()
    raise UnknownCall()
