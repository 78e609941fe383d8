"""Who has which place, in a segment and in all."""

from skatingmarks.competition import FREE, SHORT


class Standing:
    """A skater's score, and the numbers that the place goes by, the weightiest first."""

    def __init__(self, skater, score, weights):
        self.skater = skater
        self.score = score
        self.weights = weights


def places_of(standings):
    """How many there are; then of each, in order, the skater, the place, the score."""
    rows = []
    for standing in standings:
        ahead = [other for other in standings if other.weights > standing.weights]
        rows.append((len(ahead) + 1, standing.skater, standing.score))
    answer = [len(rows)]
    # By place; as the skater's number comes next, alike ones are told in its order.
    for place, skater, score in sorted(rows):
        answer.extend([skater, place, score])
    return answer


def standings_in_segment(skated, free):
    """Those who skated a segment; skated tells of each skater what was skated."""
    found = []
    for skater, over in enumerate(skated):
        if free in over:
            score = over[free].score
            found.append(Standing(skater, score, (score, tie_weight(over[free], free))))
    return found


def tie_weight(outcome, free):
    """What goes ahead in a segment of those with as high a score."""
    if free == FREE:
        return outcome.components
    return outcome.came_to


def standings_in_all(skated):
    """Those who skated the short program; skated tells of each skater what was skated."""
    found = []
    for skater, over in enumerate(skated):
        if SHORT in over:
            found.append(standing_in_all(skater, over))
    return found


def standing_in_all(skater, over):
    """How one who skated the short program stands in all."""
    short_score = over[SHORT].score
    if FREE not in over:
        return Standing(skater, short_score, (0, short_score, 0))
    free_score = over[FREE].score
    both = short_score + free_score
    return Standing(skater, both, (1, both, free_score))
