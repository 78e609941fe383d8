"""Writes calls as the interface tells them, and takes the answers apart."""

from skatingmarks.contest import answers

LEAST = -2147483648
MOST = 2147483647


def row(numbers):
    return [len(numbers)] + list(numbers)


def text_row(text):
    """A text's bytes as a row; a list of numbers stands as it is."""
    if isinstance(text, str):
        text = text.encode("latin-1")
    return row(text)


def begin(judges=3, short=100, free=100):
    return [1, judges, short, free]


def skater():
    return [2]


def read(text):
    return [3] + text_row(text)


def start(number=0, free=0):
    return [4, number, free]


def element(text="3T", grades=(0, 0, 0), second=0):
    return [5, second] + text_row(text) + row(grades)


def marks(one=(20, 20, 20), two=(20, 20, 20), three=(20, 20, 20)):
    return [6] + row(one) + row(two) + row(three)


def faults(falls=0, off=0, seconds=0):
    return [7, falls, off, seconds]


def end():
    return [8]


def sheet(number=0, free=0):
    return [9, number, free]


def places(free=0):
    return [10, free]


def in_all():
    return [11]


def skating(judges=3):
    """A short program of skater 0 is being skated."""
    return [begin(judges), skater(), start()]


def even_marks(quarters=1, judges=3):
    """The same mark of each judge for each component."""
    return marks(*[(quarters,) * judges] * 3)


def program(*calls, number=0, free=0, judges=3, quarters=1):
    """A program from its start to its end, with even marks."""
    return [start(number, free), *calls, even_marks(quarters, judges), end()]


def skating_free(judges=3, short=100, free=100):
    """A free program of skater 0 is being skated; the short one has no element."""
    return [begin(judges, short, free), skater(), *program(judges=judges), start(0, 1)]


def told_texts(texts, grades=(0, 0, 0)):
    """An element of each text; one with * behind it is in the second half."""
    return [element(text.rstrip("*"), grades, int(text.endswith("*"))) for text in texts.split()]


def judged(free, texts, grades=(0, 0, 0)):
    """The sheet of a program of these texts: of each its worth, what its grades make."""
    ahead = skating_free() if free else skating()
    answer = last(*ahead, *told_texts(texts, grades), even_marks(), end(), sheet(0, free))
    found = list(zip(answer[1::2], answer[2::2]))
    if [len(found), 2 * len(found) + 1] != [answer[0], len(answer)]:
        raise AssertionError("a sheet that doesn't fit its count: %r" % (answer,))
    return found


def worths(free, texts):
    """Of each text its worth in a program of these texts."""
    return [worth for worth, made in judged(free, texts)]


def gone_by(free, texts):
    """Of each text what its grades go by: at 5 each they make half of it, and all worths are even."""
    return [2 * made for worth, made in judged(free, texts, (5, 5, 5))]


def told(*calls):
    """The answers of these calls, a list each."""
    flat = []
    for call in calls:
        flat.extend(call)
    numbers = answers(flat)
    found = []
    place = 0
    while place < len(numbers):
        length = numbers[place]
        found.append(numbers[place + 1:place + 1 + length])
        if len(found[-1]) != length or length == 0:
            raise AssertionError("an answer is shorter than its count: %r" % (numbers,))
        place += 1 + length
    if len(found) != len(calls):
        raise AssertionError("%d calls, %d answers" % (len(calls), len(found)))
    for number in numbers:
        if type(number) is not int:
            raise AssertionError("no whole number: %r" % (number,))
    return found


def last(*calls):
    """The last one's answer."""
    return told(*calls)[-1]
