"""read, and what 'Elements' tells of texts and worths: promise 2."""

import itertools
import re
import unittest

from skatingmarks.worths import hundredths
from tests.calling import LEAST, MOST, begin, element, last, read, skater, skating, start, told

KINDS = ("T", "S", "Lo", "F", "Lz", "A")
JUMP_WORTHS = {
    "T": (40, 130, 420, 950), "S": (40, 130, 430, 970), "Lo": (50, 170, 490, 1050),
    "F": (50, 180, 530, 1100), "Lz": (60, 210, 590, 1150), "A": (110, 330, 800, 1250)}
POSITIONS = ("U", "L", "C", "S", "Co")
SPIN_WORTHS = {
    "U": (100, 120, 150, 190, 240), "L": (120, 150, 190, 240, 270),
    "C": (110, 140, 180, 230, 260), "S": (110, 130, 160, 210, 250),
    "Co": (150, 170, 200, 250, 300)}
LEVELS = "B1234"
STEPS_WORTHS = (150, 180, 260, 330, 390)

JUMP = r"[1-4](?:(?:T|S|Lo|A)|(?:F|Lz)[e!]?)(?:q|<<|<)?"
SALCHOW_OR_FLIP = r"[1-4](?:S|F[e!]?)(?:q|<<|<)?"
ELEMENT = re.compile(
    r"(?:%s(?:\+%s){0,2}|%s\+Eu\+%s|F?C?(?:U|L|C|S|Co)Sp[B1-4]|StSq[B1-4]|ChSq1)\Z"
    % (JUMP, JUMP, JUMP, SALCHOW_OR_FLIP))


def all_jumps():
    """Every jump but the small one: its text and the numbers that read answers."""
    found = []
    for turns, kind in itertools.product((1, 2, 3, 4), KINDS):
        edges = ("", "e", "!") if kind in ("F", "Lz") else ("",)
        for (edge, sign), (missing, end) in itertools.product(
                enumerate(edges), enumerate(("", "q", "<", "<<"))):
            worths = (0,) + JUMP_WORTHS[kind]
            worth = worths[turns - 1] if end == "<<" else worths[turns]
            share = {("e", "<"): 60}.get((sign, end), 80 if sign == "e" or end == "<" else 100)
            text = str(turns) + kind + sign + end
            found.append((text, [KINDS.index(kind), turns, edge, missing, worth * share // 100]))
    return found


def reads(text):
    return last(read(text))


class Jumps(unittest.TestCase):
    def test_worths_by_kind_and_turns(self):
        for number, kind in enumerate(KINDS):
            for turns in (1, 2, 3, 4):
                self.assertEqual(reads("%d%s" % (turns, kind)),
                                 [0, number, turns, 0, 0, JUMP_WORTHS[kind][turns - 1]])

    def test_written_out(self):
        for text, answer in (
                ("3Lzq", [0, 4, 3, 0, 1, 590]), ("3Lz<", [0, 4, 3, 0, 2, 472]),
                ("3Lz<<", [0, 4, 3, 0, 3, 210]), ("3Lze", [0, 4, 3, 1, 0, 472]),
                ("3Lz!", [0, 4, 3, 2, 0, 590]), ("3Lzeq", [0, 4, 3, 1, 1, 472]),
                ("3Lze<", [0, 4, 3, 1, 2, 354]), ("3Lze<<", [0, 4, 3, 1, 3, 168]),
                ("3Lz!q", [0, 4, 3, 2, 1, 590]), ("3Lz!<", [0, 4, 3, 2, 2, 472]),
                ("3Lz!<<", [0, 4, 3, 2, 3, 210]), ("1Fe<<", [0, 3, 1, 1, 3, 0]),
                ("1A<<", [0, 5, 1, 0, 3, 0]), ("1A<", [0, 5, 1, 0, 2, 88]),
                ("2T<<", [0, 0, 2, 0, 3, 40]), ("4A<<", [0, 5, 4, 0, 3, 800]),
                ("4Fe<", [0, 3, 4, 1, 2, 660]), ("1Fe<", [0, 3, 1, 1, 2, 30])):
            self.assertEqual(reads(text), answer, text)

    def test_every_jump(self):
        for text, numbers in all_jumps():
            self.assertEqual(reads(text), [0] + numbers, text)

    def test_rows_of_two_and_three(self):
        jumps = all_jumps()
        for step in (1, 7, 31):
            for place, (text, numbers) in enumerate(jumps):
                other, more = jumps[(place * step + step) % len(jumps)]
                third, most = jumps[(place + 53 * step) % len(jumps)]
                self.assertEqual(reads(text + "+" + other), [0] + numbers + more)
                self.assertEqual(reads("+".join((text, other, third))), [0] + numbers + more + most)

    def test_small_one_in_the_middle(self):
        small = [6, 1, 0, 0, 50]
        jumps = all_jumps()
        first = jumps[90]
        for text, numbers in jumps:
            answer = [0] + first[1] + small + numbers
            if numbers[0] not in (1, 3):
                answer = [-4]
            self.assertEqual(reads(first[0] + "+Eu+" + text), answer, text)
            self.assertEqual(reads(text + "+Eu+3S"), [0] + numbers + small + [1, 3, 0, 0, 430])

    def test_small_one_anywhere_else(self):
        for text in ("Eu", "Eu+3S", "3T+Eu", "Eu+3S+3S", "3T+3S+Eu", "Eu+Eu+3S", "3T+Eu+Eu",
                     "Eu+Eu+Eu", "Eu+3T+Eu", "Eu+Eu", "3T+Eu+3T", "3T+Eu+3Lo", "3T+Eu+3Lz",
                     "3T+Eu+3A", "3T+Eu<+3S", "3T+1Eu+3S", "3T+Euq+3S", "3T+Eue+3S",
                     "3T+Eu+3S+3S", "3T+3T+Eu+3S"):
            self.assertEqual(reads(text), [-4], text)

    def test_edge_behind_another_kind(self):
        for kind in ("T", "S", "Lo", "A"):
            for edge in ("e", "!"):
                for end in ("", "q", "<", "<<"):
                    self.assertEqual(reads("3" + kind + edge + end), [-4])

    def test_no_jumps(self):
        for text in ("3T+3T+3T+3T", "3T+3T+3T+", "+", "3T+", "+3T", "3T++3T", "0T", "5T", "9A",
                     "T", "3", "3X", "3t", "3l", "3L", "3lo", "3LO", "3LZ", "33T", "-3T", "3T3T",
                     "3T 3T", " 3T", "3T ", "3T\n", "3T-3T", "3T<<<", "3Tqq", "3Tq<", "3T<q",
                     "3Lzee", "3Lz!!", "3Lze!", "3Lz!e", "3Lzqe", "3Lz<e", "3Lz<<!", "3e", "3q",
                     "3<", "3LoT", "3E", "3Eu", "3T+StSq1", "3T+ChSq1", "3T+USp1", "\x003T", "3T\x00"):
            self.assertEqual(reads(text), [-4], text)


class Hundredths(unittest.TestCase):
    def test_nearest_whole_a_half_up(self):
        for share, number, nearest in ((50, 1, 1), (49, 1, 0), (50, 3, 2), (70, 5, 4), (110, 45, 50),
                                       (110, 44, 48), (80, 0, 0), (100, 7, 7), (1, 150, 2), (1, 149, 1)):
            self.assertEqual(hundredths(share, number), nearest, (share, number))


class Spins(unittest.TestCase):
    def test_every_name_and_level(self):
        for flying, change, position, level in itertools.product((0, 1), (0, 1), range(5), range(5)):
            sign = POSITIONS[position]
            text = "F" * flying + "C" * change + sign + "Sp" + LEVELS[level]
            worth = SPIN_WORTHS[sign][level] + 50 * flying + 50 * change
            self.assertEqual(reads(text), [1, 10 * flying + 5 * change + position, level, worth], text)

    def test_written_out(self):
        for text, answer in (
                ("CSp2", [1, 2, 2, 180]), ("CCSp2", [1, 7, 2, 230]), ("CoSp4", [1, 4, 4, 300]),
                ("CCoSp4", [1, 9, 4, 350]), ("FCSpB", [1, 12, 0, 160]), ("FCCSp3", [1, 17, 3, 330]),
                ("FCCoSp4", [1, 19, 4, 400]), ("FCoSp1", [1, 14, 1, 220]), ("USpB", [1, 0, 0, 100]),
                ("SSp1", [1, 3, 1, 130]), ("FCSSp4", [1, 18, 4, 350]), ("CLSp4", [1, 6, 4, 320])):
            self.assertEqual(reads(text), answer, text)

    def test_no_spins(self):
        for text in ("Sp", "Sp1", "FSp1", "FFUSp1", "CFUSp1", "CCCSp1", "CCCoSp1", "USp", "USp0",
                     "USp5", "USp9", "USpb", "USpA", "USp11", "USp1+", "USp1+3T", "USp1 ", "uSp1",
                     "ULSp1", "oSp1", "FSpB", "US1", "Up1", "USpp1", "USpSp1", "1USp1", "COSp1",
                     "TSp1", "USP1", "U1", "FC1", "StSp1"):
            self.assertEqual(reads(text), [-4], text)


class BothSteps(unittest.TestCase):
    def test_steps(self):
        for level in range(5):
            self.assertEqual(reads("StSq" + LEVELS[level]), [2, level, STEPS_WORTHS[level]])

    def test_other_steps(self):
        self.assertEqual(reads("ChSq1"), [3, 200])

    def test_no_steps(self):
        for text in ("StSq", "StSq0", "StSq5", "StSqb", "StSq11", "StSqB1", "StSq1+3T", "StSq1 ",
                     "FStSq1", "CStSq1", "stSq1", "STSQ1", "StSp", "StS1", "tSq1", "ChSq", "ChSqB",
                     "ChSq0", "ChSq2", "ChSq4", "ChSq11", "chSq1", "ChSq1+", "FChSq1", "ChSt1",
                     "ChSp1", "Sq1"):
            self.assertEqual(reads(text), [-4], text)


class EveryText(unittest.TestCase):
    def samples(self):
        jumps = [text for text, numbers in all_jumps()]
        spins = [flying + change + position + "Sp" + level for flying in ("", "F")
                 for change in ("", "C") for position in POSITIONS for level in "B4"]
        rows = [jumps[place] + "+" + jumps[-place] for place in range(0, 160, 9)]
        rows = rows + [text + "+" + jumps[-5] for text in rows]
        return jumps + spins + rows + ["3Lz!q+Eu+3Fe<", "1A+Eu+2S", "StSqB", "StSq3", "ChSq1"]

    def agree(self, texts):
        for first in range(0, len(texts), 150):
            part = texts[first:first + 150]
            for text, answer in zip(part, told(*[read(text) for text in part])):
                self.assertEqual(answer != [-4], ELEMENT.match(text) is not None, text)

    def test_a_sign_more_or_less_or_another(self):
        signs = "01245BACEFLSTUeghopqtuz!+< \x00\xff"
        texts = []
        for text in self.samples():
            texts.append(text)
            for place in range(len(text) + 1):
                texts.append(text[:place] + text[place + 1:])
                for sign in signs:
                    texts.append(text[:place] + sign + text[place:])
                    texts.append(text[:place] + sign + text[place + 1:])
        self.agree(sorted(set(texts)))

    def test_every_short_text(self):
        signs = "034BCLSTFeEuozp<+q"
        texts = ["".join(text) for length in (1, 2, 3) for text in itertools.product(signs, repeat=length)]
        self.agree(texts)


class Refusals(unittest.TestCase):
    def test_empty(self):
        self.assertEqual(reads(""), [-4])

    def test_forty_bytes_and_more(self):
        for length in (40, 39, 21):
            self.assertEqual(reads("3" * length), [-4])
            self.assertEqual(reads("+" * length), [-4])
        for length in (41, 42, 50):
            self.assertEqual(reads("3" * length), [-1])
        self.assertEqual(reads("3T" + " " * 39), [-1])

    def test_no_bytes(self):
        for number in (LEAST, -51, -1, 256, 257, 307, MOST):
            for text in ([number], [51, 84, number], [number, 51, 84], [51, number]):
                self.assertEqual(reads(text), [-1], text)
        for number in (0, 1, 127, 128, 255):
            for text in ([number], [51, 84, number], [number, 51, 84]):
                self.assertEqual(reads(text), [-4], text)

    def test_every_byte_alone(self):
        for number in range(256):
            self.assertEqual(reads([number]), [-4])

    def test_wrong_bytes_ahead_of_no_element(self):
        self.assertEqual(reads([1, 2, 300]), [-1])
        self.assertEqual(reads([120] * 40 + [-1]), [-1])

    def test_with_and_without_a_competition_changes_nothing(self):
        answer = [0, 0, 3, 0, 0, 420]
        self.assertEqual(told(read("3T"), skater(), start(), element()), [answer, [-2], [-1], [-2]])
        self.assertEqual(told(begin(), read("3T"), skater(), read("3T"), start(), read("3T"),
                              element(), read("3T"), read("x"), read([256]), element(), skater()),
                         [[0], answer, [0], answer, [0], answer, [0], answer, [-4], [-1], [1], [1]])
        self.assertEqual(told(*skating(), *[read("3T")] * 25, element())[-1], [0])


if __name__ == "__main__":
    unittest.main()
