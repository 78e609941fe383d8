"""A caller's text, taken as the element that it says."""

from skatingmarks.figures import Jump, Jumps, OtherSteps, Spin, Steps
from skatingmarks.refusals import DoesNotFit, WrongValue
from skatingmarks.worths import DOUBTED_EDGE, FLIP, HALF_MISSING, MORE_MISSING
from skatingmarks.worths import QUARTER_MISSING, SALCHOW, SMALL, WRONG_EDGE

MOST_BYTES = 40
MOST_JUMPS = 3

# Every sign that stands in some element.
SIGNS = "!+1234<ABCEFLSTUehopqtuz"

TURNS = {"1": 1, "2": 2, "3": 3, "4": 4}
KINDS = {"T": 0, "S": 1, "Lo": 2, "F": 3, "Lz": 4, "A": 5}
POSITIONS = {"U": 0, "L": 1, "C": 2, "S": 3, "Co": 4}
LEVELS = {"B": 0, "1": 1, "2": 2, "3": 3, "4": 4}


def check_text(numbers):
    """Refuses what is too long or not made of bytes."""
    if len(numbers) > MOST_BYTES:
        raise WrongValue()
    for number in numbers:
        if not 0 <= number <= 255:
            raise WrongValue()


def element_of(numbers):
    """The element that a text's bytes say."""
    text = text_of(numbers)
    if text == "ChSq1":
        return OtherSteps()
    if text.startswith("StSq"):
        return Steps(level_of(text[4:]))
    name, sign, level = text.partition("Sp")
    if sign:
        return spin_of(name, level)
    return jumps_of(text)


def text_of(numbers):
    """The bytes as signs; a byte that stands in no element makes it none."""
    signs = {}
    for sign in SIGNS:
        signs[ord(sign)] = sign
    found = []
    for number in numbers:
        if number not in signs:
            raise DoesNotFit()
        found.append(signs[number])
    return "".join(found)


def level_of(text):
    """A level's number, 0 for B."""
    if text not in LEVELS:
        raise DoesNotFit()
    return LEVELS[text]


def spin_of(name, level):
    """The spin of this name and level."""
    flying = 0
    change = 0
    if name.startswith("F"):
        flying = 1
        name = name[1:]
    # A C that is itself the position, or begins Co, is no C ahead.
    if name.startswith("C") and name not in POSITIONS:
        change = 1
        name = name[1:]
    if name not in POSITIONS:
        raise DoesNotFit()
    return Spin(POSITIONS[name], flying, change, level_of(level))


def jumps_of(text):
    """The element of jumps, with "+" between."""
    jumps = [jump_of(part) for part in text.split("+")]
    if len(jumps) > MOST_JUMPS:
        raise DoesNotFit()
    for place, jump in enumerate(jumps):
        if jump.kind == SMALL and not may_be_small(jumps, place):
            raise DoesNotFit()
    return Jumps(jumps)


def may_be_small(jumps, place):
    """Whether the small one may stand here: between two, ahead of an S or F."""
    return len(jumps) == 3 and place == 1 and jumps[2].kind in (SALCHOW, FLIP)


def jump_of(text):
    """One jump, taken from its end on, as nothing need stand behind its kind."""
    if text == "Eu":
        return Jump(SMALL, 1, 0, 0)
    text, missing = without_ending(
        text, (("<<", HALF_MISSING), ("<", MORE_MISSING), ("q", QUARTER_MISSING)))
    text, edge = without_ending(text, (("e", WRONG_EDGE), ("!", DOUBTED_EDGE)))
    digit = text[:1]
    kind = text[1:]
    if digit not in TURNS or kind not in KINDS:
        raise DoesNotFit()
    if edge != 0 and kind not in ("F", "Lz"):
        raise DoesNotFit()
    return Jump(KINDS[kind], TURNS[digit], edge, missing)


def without_ending(text, endings):
    """The text less the first ending that it has, and this one's number (0: none)."""
    for ending, number in endings:
        if text.endswith(ending):
            return text[:len(text) - len(ending)], number
    return text, 0
