"""What jumps, spins and steps are worth, in hundredths of a point."""

# The kinds of jumps that a rule names.
SALCHOW = 1
FLIP = 3
SMALL = 6

WRONG_EDGE = 1
DOUBTED_EDGE = 2

QUARTER_MISSING = 1
MORE_MISSING = 2
HALF_MISSING = 3

# By kind, then by turns from 1 on; the small one has one turn alone.
JUMP_WORTHS = (
    (40, 130, 420, 950),
    (40, 130, 430, 970),
    (50, 170, 490, 1050),
    (50, 180, 530, 1100),
    (60, 210, 590, 1150),
    (110, 330, 800, 1250),
    (50,),
)

# By position (U, L, C, S, Co), then by level from B on.
SPIN_WORTHS = (
    (100, 120, 150, 190, 240),
    (120, 150, 190, 240, 270),
    (110, 140, 180, 230, 260),
    (110, 130, 160, 210, 250),
    (150, 170, 200, 250, 300),
)
FLYING_WORTH = 50
CHANGE_WORTH = 50

STEPS_WORTHS = (150, 180, 260, 330, 390)
OTHER_STEPS_WORTH = 200


def hundredths(share, number):
    """So many hundredths of a number, to the nearest whole, a half up."""
    return (share * number + 50) // 100


def jump_worth(kind, turns, edge, missing):
    """What one jump is worth by itself."""
    if missing == HALF_MISSING:
        turns = turns - 1
    if turns == 0:
        return 0
    return hundredths(jump_share(edge, missing), JUMP_WORTHS[kind][turns - 1])


def jump_share(edge, missing):
    """How many hundredths are left of a jump's worth."""
    if edge == WRONG_EDGE and missing == MORE_MISSING:
        return 60
    if edge == WRONG_EDGE or missing == MORE_MISSING:
        return 80
    return 100


def spin_worth(position, flying, change, level):
    """What a spin is worth; flying (F) and change (C ahead) are 1 or 0."""
    return SPIN_WORTHS[position][level] + flying * FLYING_WORTH + change * CHANGE_WORTH


def steps_worth(level):
    """What steps are worth."""
    return STEPS_WORTHS[level]
