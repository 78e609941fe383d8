"""Jumps that come again, and what an element of jumps is worth: 'A program'."""

import itertools
import unittest

from skatingmarks.figures import Jump
from skatingmarks.repeating import GoneBy
from tests.calling import begin, element, gone_by, last, program, sheet, skater, worths

SHORT = 0
FREE = 1


class InAShortOne(unittest.TestCase):
    def test_second_time_by_itself(self):
        self.assertEqual(worths(SHORT, "3T 3T 3T"), [420, 0, 0])
        self.assertEqual(worths(SHORT, "4Lz 4Lz"), [1150, 0])

    def test_second_time_in_a_row(self):
        self.assertEqual(worths(SHORT, "3T 3Lz+3T 3Lz"), [420, 590, 0])
        self.assertEqual(worths(SHORT, "3Lz+3T 3Lz 3T"), [1010, 0, 0])
        self.assertEqual(worths(SHORT, "3T 3T+2T 2T"), [420, 130, 130])

    def test_within_one_element(self):
        self.assertEqual(worths(SHORT, "3T+3T 3T"), [420, 0])
        self.assertEqual(worths(SHORT, "4S+4S 3S"), [970, 430])

    def test_other_kind_or_turns(self):
        self.assertEqual(worths(SHORT, "3T+4T 3S 4S"), [1370, 430, 970])
        self.assertEqual(worths(SHORT, "3F 3Lz 4F"), [530, 590, 1100])
        self.assertEqual(worths(SHORT, "3A 3Lo 4Lo"), [800, 490, 1050])

    def test_fewer_turns_always_all(self):
        self.assertEqual(worths(SHORT, "2A 2A+2A 2A"), [330, 660, 330])
        self.assertEqual(worths(SHORT, "1T+1T 1T 1T"), [80, 40, 40])

    def test_goes_by(self):
        self.assertEqual(gone_by(SHORT, "3T 3T 3Lz+3T"), [420, 0, 590])
        self.assertEqual(gone_by(SHORT, "3Lz 2A+3Lz 3Lz"), [590, 330, 0])
        self.assertEqual(gone_by(SHORT, "3Lz 3Lz+1T<<"), [590, 0])


class InAFreeOne(unittest.TestCase):
    def test_both_by_themselves(self):
        self.assertEqual(worths(FREE, "3T 3T"), [420, 294])
        self.assertEqual(worths(FREE, "4A 2T 4A"), [1250, 130, 875])

    def test_one_of_both_in_a_row(self):
        self.assertEqual(worths(FREE, "3T 3T+2T"), [420, 550])
        self.assertEqual(worths(FREE, "3T+2T 3T"), [550, 420])
        self.assertEqual(worths(FREE, "3T 2T+2T+3T"), [420, 680])
        self.assertEqual(worths(FREE, "3T+2T 3T+2T"), [550, 550])
        self.assertEqual(worths(FREE, "3S 2A+Eu+3S"), [430, 810])

    def test_third_time(self):
        self.assertEqual(worths(FREE, "3T 3T 3T 3T"), [420, 294, 0, 0])
        self.assertEqual(worths(FREE, "3T 3T 3T+2T"), [420, 294, 130])
        self.assertEqual(worths(FREE, "3T+2T 3T 3T"), [550, 420, 0])
        self.assertEqual(worths(FREE, "3T+2T 3T+2T 3T+2T"), [550, 550, 130])
        self.assertEqual(worths(FREE, "3T+2T 3T+2T 2T+3T 3T"), [550, 550, 130, 0])

    def test_within_one_element(self):
        self.assertEqual(worths(FREE, "3T+3T 3T"), [840, 0])
        self.assertEqual(worths(FREE, "3T+3T+3T 3T"), [840, 0])
        self.assertEqual(worths(FREE, "3T 3T+3T"), [420, 420])
        self.assertEqual(worths(FREE, "3T 3T 3T+3T+3T"), [420, 294, 0])
        self.assertEqual(worths(FREE, "3Lo+2T+3Lo 3Lo"), [1110, 0])

    def test_other_kind_or_turns(self):
        self.assertEqual(worths(FREE, "3T 4T 3S 4S 3T 4T"), [420, 950, 430, 970, 294, 665])
        kinds = "T S Lo F Lz A".split()
        alone = {kind: worths(FREE, "3" + kind)[0] for kind in kinds}
        for first, other in itertools.permutations(kinds, 2):
            self.assertEqual(worths(FREE, "3%s 3%s 4%s" % (first, other, first))[:2],
                             [alone[first], alone[other]])

    def test_fewer_turns_always_all(self):
        self.assertEqual(worths(FREE, "2A " * 7), [330] * 7)
        self.assertEqual(worths(FREE, "2Lz+2Lz+2Lz 2Lz+2Lz 2Lz 1Lz 1Lz 1Lz 1Lz"),
                         [630, 420, 210, 60, 60, 60, 60])

    def test_small_one_always_all(self):
        self.assertEqual(worths(FREE, "1A+Eu+1S"), [200])
        self.assertEqual(worths(FREE, "3S 3S 3Lz+Eu+3S"), [430, 301, 640])

    def test_seventy_hundredths_of_what_is_left_of_it(self):
        self.assertEqual(worths(FREE, "3T 3T<"), [420, 235])
        self.assertEqual(worths(FREE, "3F 3Fe<"), [530, 223])
        self.assertEqual(worths(FREE, "3Lz 3Lze"), [590, 330])
        self.assertEqual(worths(FREE, "3T 3T<<"), [420, 91])
        self.assertEqual(worths(FREE, "3Lo 3Lo<<"), [490, 119])
        self.assertEqual(worths(FREE, "3A 3Aq"), [800, 560])

    def test_seventy_hundredths_to_the_nearest_whole(self):
        self.assertEqual(worths(FREE, "4Lz 4Lz"), [1150, 805])
        self.assertEqual(worths(FREE, "3F 3F<<"), [530, 126])
        # 70 hundredths of 168, of 344 and of 392: 117.6, 240.8 and 274.4.
        self.assertEqual(worths(FREE, "3Lz 3Lze<<"), [590, 118])
        self.assertEqual(worths(FREE, "3S 3S<"), [430, 241])
        self.assertEqual(worths(FREE, "3Lo 3Lo<"), [490, 274])

    def test_goes_by_its_digit(self):
        self.assertEqual(worths(FREE, "3T<< 3T"), [130, 294])
        self.assertEqual(worths(FREE, "3T<< 3T<< 3T"), [130, 91, 0])
        self.assertEqual(worths(FREE, "3T<< 2T 2T 2T"), [130, 130, 130, 130])
        self.assertEqual(worths(FREE, "4T<< 3T 3T"), [420, 420, 294])
        self.assertEqual(worths(FREE, "4T<< 4T 4T"), [420, 665, 0])
        self.assertEqual(worths(SHORT, "4T<< 3T 4T"), [420, 420, 0])

    def test_signs_do_not_make_it_another(self):
        self.assertEqual(worths(FREE, "3Lz! 3Lze 3Lz"), [590, 330, 0])
        self.assertEqual(worths(FREE, "3F! 3Fq 3F"), [530, 371, 0])
        self.assertEqual(worths(SHORT, "3Fe 3F! 3Fq"), [424, 0, 0])

    def test_goes_by_of_one_that_comes_again(self):
        self.assertEqual(gone_by(FREE, "3T 3T 3T"), [420, 420, 0])
        self.assertEqual(gone_by(FREE, "3T 3T 3T+2A"), [420, 420, 330])
        self.assertEqual(gone_by(FREE, "4T 4T<"), [950, 760])

    def test_goes_by_the_most_of_a_row(self):
        self.assertEqual(gone_by(FREE, "3T+2A 2T+3Lz 2T+3Lo+2T"), [420, 590, 490])
        self.assertEqual(gone_by(FREE, "1A+Eu+1S 1T+1T 1T<<+1S<<"), [110, 40, 0])
        self.assertEqual(gone_by(FREE, "1T<+Eu+1S<"), [50])
        self.assertEqual(gone_by(FREE, "3Lz+3T 3Lz 3T+3Lz 3T<+2A"), [590, 590, 420, 330])
        self.assertEqual(gone_by(FREE, "3Lze<+3F 3T<<+3S<<"), [530, 130])


class GoneByAhead(unittest.TestCase):
    def test_one_worth_nothing_by_this_rule_is_not_gone_by(self):
        # However many came to nothing: as many as may be have some worth, so the next has none.
        self.assertEqual(worths(FREE, "3T 3T 3T+3S 3S"), [420, 294, 430, 430])
        self.assertEqual(worths(FREE, "3T+3T+3T 3T 3T+3T 3T 3S"), [840, 0, 0, 0, 430])
        self.assertEqual(worths(SHORT, "3T 3T+3S 3S"), [420, 430, 0])
        self.assertEqual(worths(SHORT, "3T 3T+3T 3T"), [420, 0, 0])
        gone_by_so_far = GoneBy(FREE)
        for share in (100, 70, 0, 0, 0):
            self.assertEqual(gone_by_so_far.take(Jump(0, 3, 0, 0), False), share)
        self.assertEqual(len(gone_by_so_far.in_rows[(0, 3)]), 2)

    def test_elements_that_do_not_count_are_not_gone_by(self):
        self.assertEqual(worths(SHORT, "3Lz+3T+2T 3Lz 3T"), [0, 590, 420])
        self.assertEqual(worths(SHORT, "2T+2T 3Lz+3T 3Lz 3T"), [260, 0, 590, 420])
        self.assertEqual(worths(FREE, "2T+2T+2T 3Lz+3T+3T 3T 3T"), [390, 0, 420, 294])
        self.assertEqual(worths(FREE, "2T+2T 2T+2T 2T+2T 3T+3T 3T 3T 3T"),
                         [260, 260, 260, 0, 420, 294, 0])

    def test_all_jumps_come_to_nothing_but_it_counts(self):
        self.assertEqual(worths(SHORT, "3T 3T 3T 3Lz"), [420, 0, 0, 0])
        self.assertEqual(worths(FREE, "3T 3T 3T 3T 3T 3T 3T 3Lz"), [420, 294, 0, 0, 0, 0, 0, 0])
        self.assertEqual(worths(FREE, "3T+3T 3T+3T 3T+3T 3Lz+2T"), [840, 0, 0, 0])
        self.assertEqual(worths(FREE, "3T+3T 3T+3T+3T 2T+2T+2T 2T+2T"), [840, 0, 0, 260])

    def test_jumps_of_the_short_one_are_not_gone_by_in_the_free_one(self):
        calls = [element("3T"), element("3T")]
        self.assertEqual(last(begin(), skater(), *program(*calls), *program(*calls, free=1), sheet(0, 1)),
                         [2, 420, 0, 294, 0])
        self.assertEqual(last(begin(), skater(), *program(*calls), *program(*calls, free=1), sheet(0, 0)),
                         [2, 420, 0, 0, 0])


class InTheSecondHalf(unittest.TestCase):
    def test_last_one_of_a_short_program(self):
        self.assertEqual(worths(SHORT, "3Lz* 3F* 2A*"), [590, 530, 363])
        self.assertEqual(worths(SHORT, "3Lz 3F* 2A"), [590, 583, 330])
        self.assertEqual(worths(SHORT, "3Lz 3F 2A"), [590, 530, 330])
        self.assertEqual(worths(SHORT, "3Lz*"), [649])

    def test_last_three_of_a_free_one(self):
        self.assertEqual(worths(FREE, "2T* 2S* 2Lo* 2F* 2Lz*"), [130, 130, 187, 198, 231])
        self.assertEqual(worths(FREE, "2T 2S* 2Lo 2F* 2Lz 2A* 1A"),
                         [130, 143, 170, 198, 210, 363, 110])
        self.assertEqual(worths(FREE, "2T* 2S*"), [143, 143])
        self.assertEqual(worths(FREE, "2T*"), [143])
        self.assertEqual(worths(FREE, "2T 2S"), [130, 130])

    def test_among_those_that_count(self):
        self.assertEqual(worths(SHORT, "2T* 2S* 2Lo* 2F*"), [130, 130, 187, 0])
        self.assertEqual(worths(SHORT, "3Lz+2T* 3F+2T*"), [792, 0])
        self.assertEqual(worths(SHORT, "3Lz* 3F+2T+2T*"), [649, 0])
        self.assertEqual(worths(FREE, "2T+2T+2T* 2S* 2Lo* 2T+2T+2T*"), [429, 143, 187, 0])
        self.assertEqual(worths(FREE, "2T* " * 9), [130] * 4 + [143] * 3 + [0, 0])

    def test_among_those_of_jumps(self):
        self.assertEqual(worths(SHORT, "3Lz* USp4* StSq4* ChSq1*"), [649, 240, 390, 0])
        self.assertEqual(worths(FREE, "2T* 2S* USp4* StSq4* ChSq1* 2Lo* LSp4*"),
                         [143, 143, 240, 390, 200, 187, 270])
        self.assertEqual(worths(FREE, "USpB* StSqB* ChSq1*"), [100, 150, 200])

    def test_one_whose_jumps_came_to_nothing_is_among_them(self):
        self.assertEqual(worths(SHORT, "3Lz* 3Lz*"), [590, 0])
        self.assertEqual(worths(SHORT, "3Lz* 1T<<*"), [590, 0])
        self.assertEqual(worths(FREE, "2S* 3T* 3T* 3T*"), [130, 462, 323, 0])

    def test_of_what_the_element_is_worth(self):
        # 70 hundredths of 420 are 294; of these 110 hundredths are 323.4.
        self.assertEqual(worths(FREE, "3T 3T*"), [420, 323])
        self.assertEqual(worths(FREE, "3S 3S*"), [430, 331])
        self.assertEqual(worths(FREE, "3Lz+3T 3T+2T 3Lz+3T*"), [1010, 550, 649])
        self.assertEqual(worths(SHORT, "3Lz+3T*"), [1111])
        self.assertEqual(worths(FREE, "2A+Eu+2S*"), [561])

    def test_to_the_nearest_whole_a_half_up(self):
        # 110 hundredths of 805, of 875 and of 354: 885.5, 962.5 and 389.4.
        self.assertEqual(worths(FREE, "4Lz 4Lz*"), [1150, 886])
        self.assertEqual(worths(FREE, "4A 4A*"), [1250, 963])
        self.assertEqual(worths(SHORT, "3Lze<*"), [389])
        self.assertEqual(worths(SHORT, "1T<*"), [35])

    def test_what_grades_go_by_stays(self):
        self.assertEqual(gone_by(SHORT, "3Lz* 3F* 2A*"), [590, 530, 330])
        self.assertEqual(gone_by(FREE, "3T 3T* 3Lz+2T* 2A*"), [420, 420, 590, 330])

    def test_what_comes_later_takes_it_away(self):
        self.assertEqual(worths(FREE, "2T* 2T* 2T*"), [143, 143, 143])
        self.assertEqual(worths(FREE, "2T* 2T* 2T* 2T*"), [130, 143, 143, 143])


if __name__ == "__main__":
    unittest.main()
