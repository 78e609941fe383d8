"""What a text can say: jumps, a spin, steps, or the other steps."""

from skatingmarks.worths import OTHER_STEPS_WORTH, jump_worth, spin_worth, steps_worth

JUMPS = 0
SPIN = 1
STEPS = 2
OTHER_STEPS = 3


class Jump:
    """One jump of an element of jumps."""

    def __init__(self, kind, turns, edge, missing):
        self.kind = kind
        self.turns = turns
        self.edge = edge
        self.missing = missing
        self.worth = jump_worth(kind, turns, edge, missing)


class Jumps:
    """An element of 1 to 3 jumps."""

    def __init__(self, jumps):
        self.group = JUMPS
        self.jumps = jumps

    def described(self):
        """The numbers that read answers."""
        answer = [self.group]
        for jump in self.jumps:
            answer.extend([jump.kind, jump.turns, jump.edge, jump.missing, jump.worth])
        return answer


class Spin:
    """A spin; its name is a number, all but the level."""

    def __init__(self, position, flying, change, level):
        self.group = SPIN
        self.name = 10 * flying + 5 * change + position
        self.level = level
        self.worth = spin_worth(position, flying, change, level)

    def described(self):
        """The numbers that read answers."""
        return [self.group, self.name, self.level, self.worth]


class Steps:
    """Steps of a level."""

    def __init__(self, level):
        self.group = STEPS
        self.level = level
        self.worth = steps_worth(level)

    def described(self):
        """The numbers that read answers."""
        return [self.group, self.level, self.worth]


class OtherSteps:
    """The other steps, which have one level alone."""

    def __init__(self):
        self.group = OTHER_STEPS
        self.worth = OTHER_STEPS_WORTH

    def described(self):
        """The numbers that read answers."""
        return [self.group, self.worth]
