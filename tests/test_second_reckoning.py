"""Whole competitions against a second reckoning, written apart from the program's, and the bold promises."""

import random
import unittest
from fractions import Fraction

from tests.calling import begin, element, end, faults, in_all, last, marks, places, read, sheet, skater
from tests.calling import skating, start, told, worths

JUMPS = ("3T 3T 3T< 3T<< 3S 3S 4T 4T< 3Lz 3Lze 3Lz!< 3A 2A 2T 1T<< 3Fe<< 4Lz 3Lo 2Lo").split()
OTHERS = ("USp1 USpB CSp2 CCSp3 FSSp4 FCCoSp4 CoSp2 LSp1 StSqB StSq4 StSq2 ChSq1").split()


def away(number):
    """The nearest whole, a half away from 0."""
    whole = int(abs(number) + Fraction(1, 2))
    return whole if number >= 0 else -whole


def mean(numbers):
    row = sorted(numbers)
    if len(row) >= 5:
        row = row[1:len(row) - 1]
    return Fraction(sum(row), len(row))


class Reckoned:
    """One program; each element is its text, whether it's in the second half, its grades."""

    def __init__(self, free, elements, quarters, factor, taken):
        self.free = free
        self.elements = elements
        self.jumps_told = []
        counted = self.counted()
        late = [n for n in counted if elements[n][1] and elements[n][0][0] in "1234"]
        late = set(late[-3:] if free else late[-1:])
        self.rows = []
        for n, (text, second, grades) in enumerate(elements):
            worth, by = self.worth(n) if n in counted else (0, 0)
            if n in late:
                worth = away(Fraction(110 * worth, 100))
            self.rows.append((worth, away(mean(grades) * by / 10)))
        self.came_to = sum(worth + made for worth, made in self.rows)
        self.components = away(Fraction(sum(away(25 * mean(row)) for row in quarters) * factor, 100))
        falls, off, seconds = taken
        points = [1, 1, 2, 2] + [3] * 16
        self.taken_off = 100 * (sum(points[:falls]) + off + len(range(0, seconds, 5)))
        self.score = max(0, self.came_to + self.components - self.taken_off)

    def counted(self):
        free = self.free
        counts = []
        rows = threes = jumps = steps = other = 0
        names = []
        for n, (text, second, grades) in enumerate(self.elements):
            if text == "ChSq1":
                if free and not other:
                    other = 1
                    counts.append(n)
            elif text[:2] == "St":
                if not steps:
                    steps = 1
                    counts.append(n)
            elif "Sp" in text:
                if len(names) < 3 and text[:-1] not in names:
                    names.append(text[:-1])
                    counts.append(n)
            else:
                length = text.count("+") + 1
                too_many = jumps == (7 if free else 3)
                too_many |= length > 1 and rows == (3 if free else 1)
                too_many |= length == 3 and threes == (1 if free else 0)
                if not too_many:
                    jumps += 1
                    rows += length > 1
                    threes += length == 3
                    counts.append(n)
        return counts

    def worth(self, n):
        text = self.elements[n][0]
        if text[0] not in "1234":
            worth = last(read(text))[-1]
            return worth, worth
        total = most = 0
        in_row = "+" in text
        for part in text.split("+"):
            worth = 50 if part == "Eu" else last(read(part))[-1]
            if part[0] in "34":
                same = [row for key, row in self.jumps_told if key == part.rstrip("q<e!")]
                if len(same) > self.free:
                    continue
                self.jumps_told.append((part.rstrip("q<e!"), in_row))
                most = max(most, worth)
                if len(same) == 1 and not (same[0] or in_row):
                    worth = int(Fraction(7 * worth, 10) + Fraction(1, 2))
            most = max(most, worth if part[0] not in "34" else 0)
            total += worth
        return total, most


def some_text(rng):
    if rng.random() < 0.3:
        return rng.choice(OTHERS)
    if rng.random() < 0.08:
        return rng.choice(JUMPS) + "+Eu+3S"
    return "+".join(rng.choice(JUMPS) for part in range(rng.choice((1, 1, 1, 1, 2, 2, 3))))


def some_program(rng, free, judges, factor):
    """The calls of a program, ahead of its end, and what it comes to."""
    told_of_it = []
    for n in range(rng.randrange(16)):
        told_of_it.append((some_text(rng), rng.randrange(2), [rng.randint(-5, 5) for judge in range(judges)]))
    quarters = [[rng.randint(1, 40) for judge in range(judges)] for row in range(3)]
    taken = (rng.choice((0, 0, 1, 3, 6, 20)), rng.choice((0, 0, 2)), rng.choice((0, 0, 1, 5, 6, 31)))
    calls = [element(text, grades, second) for text, second, grades in told_of_it]
    calls = calls + [marks(*quarters), faults(*taken)]
    return calls, Reckoned(free, told_of_it, quarters, factor, taken)


def placed(keyed):
    """Of (key, skater, score): how many, then the skater, the place, the score of each."""
    rows = []
    for key, number, score in keyed:
        rows.append((1 + sum(other > key for other, who, much in keyed), number, score))
    answer = [len(rows)]
    for place, number, score in sorted(rows):
        answer += [number, place, score]
    return answer


class WholeCompetitions(unittest.TestCase):
    def test_against_the_second_reckoning(self):
        rng = random.Random(5)
        for times in range(300):
            self.one_competition(rng)

    def one_competition(self, rng):
        judges = rng.randint(3, 9)
        factors = (rng.randint(1, 1000), rng.randint(1, 1000))
        skaters = rng.randint(1, 3)
        calls = [begin(judges, *factors)] + [skater()] * skaters
        expected = [[0]] + [[number] for number in range(skaters)]
        over = {}
        for number, free in [(n, 0) for n in range(skaters)] + [(n, 1) for n in range(skaters)]:
            if rng.random() < 0.8 and (free == 0 or (number, 0) in over):
                told_of_it, reckoned = some_program(rng, free, judges, factors[free])
                calls += [start(number, free), *told_of_it, end(), sheet(number, free)]
                expected += [[0]] + [[n] for n in range(len(told_of_it) - 2)] + [[0], [0]]
                expected.append([reckoned.score, reckoned.came_to, reckoned.components, reckoned.taken_off])
                expected.append([len(reckoned.rows)] + [part for row in reckoned.rows for part in row])
                over[(number, free)] = reckoned
        calls += [places(0), places(1), in_all()]
        expected += [self.segment(over, 0), self.segment(over, 1), self.whole(over)]
        self.assertEqual(told(*calls), expected)

    def segment(self, over, free):
        keyed = []
        for (number, segment), one in over.items():
            if segment == free:
                keyed.append(((one.score, one.components if free else one.came_to), number, one.score))
        return placed(keyed)

    def whole(self, over):
        keyed = []
        for (number, segment), one in over.items():
            if segment == 0:
                other = over.get((number, 1))
                much = one.score + (other.score if other else 0)
                keyed.append(((other is not None, much, other.score if other else 0), number, much))
        return placed(keyed)


class BoldPromises(unittest.TestCase):
    def test_what_is_skated_later_never_makes_worth_more_what_was_before(self):
        rng = random.Random(11)
        for times in range(60):
            free = rng.randrange(2)
            texts = [some_text(rng) + rng.choice(("", "*")) for n in range(12)]
            ahead = []
            for length in range(1, 13):
                now = worths(free, " ".join(texts[:length]))
                for before, after in zip(ahead, now):
                    self.assertLessEqual(after, before, texts)
                ahead = now

    def test_what_is_missing_never_makes_a_jump_worth_more(self):
        for kind in ("T", "S", "Lo", "F", "Lz", "A"):
            for turns in (1, 2, 3, 4):
                for edge in ("", "e", "!") if kind in ("F", "Lz") else ("",):
                    jump = str(turns) + kind + edge
                    whole, quarter, more, half = [last(read(jump + end))[-1] for end in ("", "q", "<", "<<")]
                    self.assertEqual(whole, quarter)
                    self.assertLess(more, whole)
                    self.assertLess(half, more)

    def test_what_is_missing_never_makes_an_element_worth_more(self):
        rng = random.Random(17)
        for times in range(200):
            free = rng.randrange(2)
            texts = [some_text(rng).replace("<", "") + rng.choice(("", "*")) for n in range(8)]
            whole = worths(free, " ".join(texts))
            n = rng.randrange(8)
            if texts[n][0] in "1234" and not texts[n].endswith("*"):
                for less in ("<", "<<"):
                    now = worths(free, " ".join(texts[:n] + [texts[n] + less] + texts[n + 1:]))
                    self.assertLessEqual(now[n], whole[n])
                    self.assertEqual(now[:n] + now[n + 1:], whole[:n] + whole[n + 1:])

    def test_one_of_five_or_more_alone_carries_no_mark_beyond_the_others(self):
        rng = random.Random(23)
        for times in range(300):
            judges = rng.randint(5, 9)
            others = [rng.randint(-5, 5) for judge in range(judges - 1)]
            wild = rng.choice((-5, 5))
            made = last(*skating(judges), element("4A", others + [wild]),
                        marks(*[(20,) * judges] * 3), end(), sheet())[2]
            self.assertLessEqual(125 * min(others), made)
            self.assertLessEqual(made, 125 * max(others))
            quarters = [rng.randint(1, 40) for judge in range(judges - 1)]
            row = quarters + [rng.choice((1, 40))]
            component = last(*skating(judges), marks(row, row, row), end())[0] // 3
            self.assertLessEqual(25 * min(quarters), component)
            self.assertLessEqual(component, 25 * max(quarters))


if __name__ == "__main__":
    unittest.main()
