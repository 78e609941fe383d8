"""Which elements count: 'A program'."""

import unittest

from tests.calling import begin, gone_by, judged, last, program, sheet, skater, told_texts, worths

SHORT = 0
FREE = 1


class Counts(unittest.TestCase):
    def agree(self, free, texts, expected):
        """The worths, and that grades make something of these that count alone."""
        self.assertEqual(worths(free, texts), expected, texts)
        self.assertEqual([made != 0 for worth, made in judged(free, texts, (-5, 1, 1))],
                         [worth != 0 for worth in expected], texts)


class OfJumps(Counts):
    def test_three_in_a_short_one(self):
        self.agree(SHORT, "2A 3Lz 3F 3Lo", [330, 590, 530, 0])
        self.agree(SHORT, "2T 2T 2T 2T 2T", [130, 130, 130, 0, 0])

    def test_seven_in_a_free_one(self):
        self.agree(FREE, "2T 2S 2Lo 2F 2Lz 2A 1A 1T", [130, 130, 170, 180, 210, 330, 110, 0])
        self.agree(FREE, "2T " * 9, [130] * 7 + [0, 0])

    def test_others_between_take_no_room(self):
        self.agree(SHORT, "2A USpB 3Lz StSqB 3F ChSq1 3Lo CSpB",
                   [330, 100, 590, 150, 530, 0, 0, 110])

    def test_one_row_in_a_short_one(self):
        self.agree(SHORT, "3Lz+2T 3F+2T 3F 2A", [720, 0, 530, 330])
        self.agree(SHORT, "2A 3Lz+2T 2T+2T 3F", [330, 720, 0, 530])

    def test_three_rows_in_a_free_one(self):
        self.agree(FREE, "2T+2T 2S+2T 2Lo+2T 2F+2T 2F", [260, 260, 300, 0, 180])
        self.agree(FREE, "2T+2T+2T 2S+2T 2Lo+2T 2F+2T 2F", [390, 260, 300, 0, 180])

    def test_three_jumps_in_a_short_one(self):
        self.agree(SHORT, "3Lz+2T+2T 3Lz+2T 3F 2A", [0, 720, 530, 330])
        self.agree(SHORT, "3Lz+Eu+3S", [0])

    def test_three_jumps_once_in_a_free_one(self):
        self.agree(FREE, "2A+2T+2T 2Lo+2T+2T 2Lo+2T", [590, 0, 300])
        self.agree(FREE, "2A+Eu+2S 2Lo+2T+2T 2Lo+Eu+2S", [510, 0, 0])
        self.agree(FREE, "2T+2T 2A+Eu+2S 2T+2T", [260, 510, 260])

    def test_one_that_does_not_count_takes_no_room(self):
        self.agree(SHORT, "2T+2T 2A+2T 2A+2T 2A 2F 2Lz", [260, 0, 0, 330, 180, 0])
        self.agree(FREE, "2T+2T+2T 2T+2T+2T 2T+2T 2T+2T 2T+2T 2T 2T 2T 2T 2T",
                   [390, 0, 260, 260, 0, 130, 130, 130, 130, 0])

    def test_all_seven_and_all_rows(self):
        self.agree(FREE, "2T 2T 2T 2T 2T+2T 2T+2T 2T+2T+2T 2T",
                   [130, 130, 130, 130, 260, 260, 390, 0])
        self.agree(FREE, "2T 2T 2T 2T 2T 2T 2T 2T+2T 2T+2T+2T", [130] * 7 + [0, 0])

    def test_jumps_that_come_to_nothing_take_room(self):
        self.assertEqual(worths(SHORT, "1T<< 1S<< 1Lo<< 3Lz"), [0, 0, 0, 0])
        self.assertEqual(worths(SHORT, "1T<< 1S<< 3Lz 3F"), [0, 0, 590, 0])
        self.assertEqual(worths(SHORT, "1T<<+1S<< 3Lz+2T 3F"), [0, 0, 530])
        self.assertEqual(worths(FREE, "1T<<+1T<<+1T<< 2T+2T+2T 2T"), [0, 0, 130])
        self.assertEqual(worths(FREE, "1T<<+1T<< " * 3 + "2T+2T 2T"), [0, 0, 0, 0, 130])
        self.assertEqual(worths(SHORT, "3Lz 3Lz 3F 2A"), [590, 0, 530, 0])


class OfSpins(Counts):
    def test_three_of_different_names(self):
        for free in (SHORT, FREE):
            self.agree(free, "USpB LSpB CSpB SSpB", [100, 120, 110, 0])
            self.agree(free, "CCoSp4 FCSp4 SSp4 CoSp4 CCoSp3", [350, 310, 250, 0, 0])

    def test_name_a_second_time(self):
        for free in (SHORT, FREE):
            self.agree(free, "USpB USpB LSpB", [100, 0, 120])
            self.agree(free, "USpB USp4 LSpB CSpB SSpB", [100, 0, 120, 110, 0])
            self.agree(free, "FCCoSp4 LSp1 FCCoSp1 FCCoSp4", [400, 150, 0, 0])

    def test_every_part_of_the_name_tells_them_apart(self):
        for free in (SHORT, FREE):
            self.agree(free, "CSpB FCSpB CCSpB", [110, 160, 160])
            self.agree(free, "FCCSpB CoSpB CCoSpB", [210, 150, 200])
            self.agree(free, "FCoSpB CCoSpB FCCoSpB", [200, 200, 250])

    def test_jumps_and_steps_take_none_of_their_room(self):
        self.agree(FREE, "2T 2S 2Lo StSqB ChSq1 2F USpB LSpB 2Lz CSpB SSpB",
                   [130, 130, 170, 150, 200, 180, 100, 120, 210, 110, 0])


class OfSteps(Counts):
    def test_once(self):
        for free in (SHORT, FREE):
            self.agree(free, "StSqB StSqB", [150, 0])
            self.agree(free, "StSq2 StSq4 StSq2", [260, 0, 0])

    def test_other_steps_in_a_short_one(self):
        self.agree(SHORT, "ChSq1", [0])
        self.agree(SHORT, "ChSq1 StSq1 ChSq1", [0, 180, 0])

    def test_other_steps_in_a_free_one(self):
        self.agree(FREE, "ChSq1 ChSq1 ChSq1", [200, 0, 0])
        self.agree(FREE, "ChSq1 StSq1 ChSq1 StSq1", [200, 180, 0, 0])
        self.agree(FREE, "StSq4 ChSq1", [390, 200])


class GoesBy(unittest.TestCase):
    def test_others_than_jumps_go_by_their_worth(self):
        self.assertEqual(gone_by(FREE, "FCCoSp4 StSq3 ChSq1 LSpB* StSq4 ChSq1 FCCoSpB"),
                         [400, 330, 200, 120, 0, 0, 0])
        self.assertEqual(gone_by(SHORT, "CSp1 CSp4 StSqB ChSq1"), [140, 0, 150, 0])

    def test_what_does_not_count(self):
        self.assertEqual(judged(SHORT, "3Lz+3T+3Lo", (5, 5, 5)), [(0, 0)])
        self.assertEqual(judged(SHORT, "ChSq1", (-5, -5, -5)), [(0, 0)])
        self.assertEqual(judged(FREE, "2T " * 8, (5, 5, 5))[-1], (0, 0))


class EachProgram(unittest.TestCase):
    def test_counts_anew(self):
        calls = told_texts("2T 2S 2T+2T USp1 StSq1")
        competition = [begin(), skater(), skater(), *program(*calls), *program(*calls, number=1),
                       *program(*calls, free=1)]
        for number, free in ((0, 0), (1, 0), (0, 1)):
            self.assertEqual(last(*competition, sheet(number, free)),
                             [5, 130, 0, 130, 0, 260, 0, 120, 0, 180, 0])

    def test_of_twenty_told(self):
        self.assertEqual(worths(SHORT, "2T " * 17 + "USpB StSqB ChSq1"),
                         [130, 130, 130] + [0] * 14 + [100, 150, 0])
        self.assertEqual(worths(FREE, "ChSq1 " * 13 + "2T " * 7), [200] + [0] * 12 + [130] * 7)


if __name__ == "__main__":
    unittest.main()
