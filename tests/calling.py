"""Writes calls as the interface tells them, and takes the answers apart."""

from skatingmarks.contest import answers

LEAST = -2147483648
MOST = 2147483647


def row(numbers):
    return [len(numbers)] + list(numbers)


def text_row(text):
    """A text's bytes as a row; a list of numbers stands as it is."""
    if isinstance(text, str):
        text = text.encode("latin-1")
    return row(text)


def begin(judges=3, short=100, free=100):
    return [1, judges, short, free]


def skater():
    return [2]


def read(text):
    return [3] + text_row(text)


def start(number=0, free=0):
    return [4, number, free]


def element(text="3T", grades=(0, 0, 0), second=0):
    return [5, second] + text_row(text) + row(grades)


def marks(one=(20, 20, 20), two=(20, 20, 20), three=(20, 20, 20)):
    return [6] + row(one) + row(two) + row(three)


def skating(judges=3):
    """A short program of skater 0 is being skated."""
    return [begin(judges), skater(), start()]


def told(*calls):
    """The answers of these calls, a list each."""
    flat = []
    for call in calls:
        flat.extend(call)
    numbers = answers(flat)
    found = []
    place = 0
    while place < len(numbers):
        length = numbers[place]
        found.append(numbers[place + 1:place + 1 + length])
        if len(found[-1]) != length or length == 0:
            raise AssertionError("an answer is shorter than its count: %r" % (numbers,))
        place += 1 + length
    if len(found) != len(calls):
        raise AssertionError("%d calls, %d answers" % (len(calls), len(found)))
    for number in numbers:
        if type(number) is not int:
            raise AssertionError("no whole number: %r" % (number,))
    return found


def last(*calls):
    """The last one's answer."""
    return told(*calls)[-1]
