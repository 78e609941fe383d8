"""Why a call is refused: one error for each number below 0."""


class WrongValue(Exception):
    """-1: a number, a list or a text isn't as told."""


class NothingOpen(Exception):
    """-2: there's no competition, or no program is being skated."""


class StillSkating(Exception):
    """-3: a program is being skated."""


class DoesNotFit(Exception):
    """-4: a text is no element, a program is out of its order or wasn't skated, or no marks were told."""


class NoRoom(Exception):
    """-5: there are as many as there may be."""
