"""What is left of a jump that comes a second or a third time in a program."""

# Jumps of fewer turns may come as often as one likes.
LEAST_TURNS = 3

# By segment: how often a jump of the same kind and turns may have some worth.
MOST_TIMES = (1, 2)

WHOLE = 100
SECOND_BY_ITSELF = 70


class GoneBy:
    """The jumps of 3 or 4 turns that had some worth so far in a program."""

    def __init__(self, free):
        self.free = free
        # By kind and turns: of each of these, in order, whether it stood in a row.
        self.in_rows = {}

    def take(self, jump, in_row):
        """Takes the next jump: how many hundredths of its worth are left."""
        if jump.turns < LEAST_TURNS:
            return WHOLE
        ahead = self.in_rows.setdefault((jump.kind, jump.turns), [])
        share = share_left(ahead, in_row, self.free)
        if share > 0:
            ahead.append(in_row)
        return share


def share_left(ahead, in_row, free):
    """The hundredths left; ahead tells of those of its kind and turns whether each stood in a row."""
    if len(ahead) == MOST_TIMES[free]:
        return 0
    if len(ahead) == 1 and not ahead[0] and not in_row:
        return SECOND_BY_ITSELF
    return WHOLE
