"""faults and end, and what grades, marks and faults make: promise 4."""

import unittest

from skatingmarks.marking import nearest, put_together
from tests.calling import LEAST, MOST, begin, element, end, even_marks, faults, last, marks, program
from tests.calling import sheet, skater, skating, skating_free, start, told, told_texts


def grades_made(text, grades, free=0):
    """What these grades of a single element make."""
    judges = len(grades)
    ahead = skating_free(judges) if free else skating(judges)
    return last(*ahead, element(text, grades), even_marks(1, judges), end(), sheet(0, free))[2]


def components(one, two=None, three=None, factor=100):
    """The components of a program without elements."""
    two = two or one
    three = three or one
    score, came_to, made, off = last(begin(len(one), factor, 1), skater(), start(),
                                     marks(one, two, three), end())
    if [score, came_to, off] != [made, 0, 0]:
        raise AssertionError("a program without elements scores its components alone")
    return made


def taken_off(*calls):
    """What's taken off behind these calls."""
    return last(*skating(), *calls, even_marks(40), end())[3]


class Grades(unittest.TestCase):
    def test_of_three_and_four_all(self):
        self.assertEqual(grades_made("3T", (1, 2, 3)), 84)
        self.assertEqual(grades_made("3T", (5, -5, 3)), 42)
        self.assertEqual(grades_made("3T", (0, 0, 0)), 0)
        self.assertEqual(grades_made("3T", (-5, 5, 5, 5)), 105)
        self.assertEqual(grades_made("3T", (5, -5, -5, -5)), -105)
        self.assertEqual(grades_made("3T", (0, 0, 0, 4)), 42)

    def test_of_five_and_more_without_one_greatest_and_one_least(self):
        self.assertEqual(grades_made("3T", (-5, 5, 5, 5, 5)), 210)
        self.assertEqual(grades_made("3T", (5, -5, -5, -5, -5)), -210)
        self.assertEqual(grades_made("3T", (3, 1, 2, 5, -5)), 84)
        self.assertEqual(grades_made("3T", (5, 5, -5, -5, 3)), 42)
        self.assertEqual(grades_made("3T", (0, 4, 0, 4, 4, 0)), 84)
        self.assertEqual(grades_made("3T", (5, 5, 5, 0, 0, 0, 0)), 84)
        self.assertEqual(grades_made("3T", (0, 0, 0, 0, 0, 0, 0, 5)), 0)
        self.assertEqual(grades_made("3T", (-5, 5, -5, 5, 1, 1, 1, 2, 2)), 42)
        self.assertEqual(grades_made("3T", (5, -5, 5, -5, 5, -5, 5, -5, 5)), 30)

    def test_one_of_five_alone_carries_nothing_beyond_the_others(self):
        for judges in (5, 6, 7, 8, 9):
            for place in range(judges):
                for wild in (-5, 5):
                    grades = [2] * judges
                    grades[place] = wild
                    self.assertEqual(grades_made("3Lz", grades), 118)
        for place in range(4):
            grades = [2, 2, 2, 2]
            grades[place] = 5
            self.assertEqual(grades_made("3Lz", grades), 162)

    def test_all_alike(self):
        for judges in range(3, 10):
            for grade in range(-5, 6):
                self.assertEqual(grades_made("4A", (grade,) * judges), 125 * grade)

    def test_to_the_nearest_whole(self):
        # 590 times 1 and 2 thirds of a tenth are 19.67 and 39.33.
        for grades, made in (((0, 0, 1), 20), ((0, 1, 1), 39), ((0, 0, -1), -20), ((0, -1, -1), -39)):
            self.assertEqual(grades_made("3Lz", grades), made)

    def test_a_half_away_from_0(self):
        # 59 times a half is 29.5; times three quarters 44.25; times a quarter 14.75.
        self.assertEqual(grades_made("3Lz", (1, 1, 0, 0)), 30)
        self.assertEqual(grades_made("3Lz", (-1, -1, 0, 0)), -30)
        self.assertEqual(grades_made("3Lz", (1, 1, 1, 0)), 44)
        self.assertEqual(grades_made("3Lz", (-1, 0, 0, 0)), -15)
        self.assertEqual(grades_made("3Lz", (5, 1, 1, 0, 0, -5)), 30)
        self.assertEqual(grades_made("3Lz", (5, -1, -1, 0, 0, -5)), -30)
        self.assertEqual(grades_made("3F", (5, 1, 1, 1, 0, 0, 0, -5)), 27)
        self.assertEqual(grades_made("3F", (5, -1, -1, -1, 0, 0, 0, -5)), -27)
        # 47.2 times a quarter and 1 and a quarter, and 33 times a half.
        self.assertEqual(grades_made("3Lze", (0, 0, 0, 1)), 12)
        self.assertEqual(grades_made("2A", (0, 0, 1, 1)), 17)
        self.assertEqual(grades_made("2A", (0, 0, -1, -1)), -17)

    def test_nearest(self):
        for number, divisor, whole in ((5, 10, 1), (4, 10, 0), (-4, 10, 0), (-5, 10, -1), (-6, 10, -1),
                                       (15, 10, 2), (-15, 10, -2), (-14, 10, -1), (0, 7, 0), (3, 7, 0),
                                       (4, 7, 1), (-4, 7, -1), (-3, 7, 0), (7, 1, 7), (-7, 1, -7)):
            self.assertEqual(nearest(number, divisor), whole, (number, divisor))

    def test_by_what_the_element_goes_by(self):
        self.assertEqual(grades_made("3Lz+3T", (5, 5, 5)), 295)
        self.assertEqual(grades_made("3T+3Lz", (-5, -5, -5)), -295)
        self.assertEqual(grades_made("FCCoSp4", (-5, -5, -5)), -200)
        self.assertEqual(grades_made("StSqB", (1, 1, 1)), 15)
        self.assertEqual(grades_made("ChSq1", (5, 5, 5)), 0)
        self.assertEqual(grades_made("ChSq1", (5, 5, 5), free=1), 100)
        self.assertEqual(grades_made("1T<<", (5, 5, 5)), 0)
        self.assertEqual(grades_made("1T<", (-5, -5, -5)), -16)


class Components(unittest.TestCase):
    def test_all_three_added(self):
        self.assertEqual(components((1, 1, 1)), 75)
        self.assertEqual(components((40, 40, 40)), 3000)
        self.assertEqual(components((4, 4, 4), (8, 8, 8), (12, 12, 12)), 600)
        self.assertEqual(components((8, 8, 8), (4, 4, 4), (4, 4, 4)), 400)

    def test_mean_of_three_and_four(self):
        self.assertEqual(components((1, 1, 40)), 3 * 350)
        self.assertEqual(components((1, 40, 40, 40)), 3 * 756)
        self.assertEqual(components((1, 1, 40), (4, 4, 4), (4, 4, 4)), 550)

    def test_of_five_and_more_without_one_greatest_and_one_least(self):
        self.assertEqual(components((1, 40, 40, 40, 40)), 3000)
        self.assertEqual(components((40, 1, 1, 1, 1)), 75)
        self.assertEqual(components((4, 40, 8, 1, 12)), 600)
        self.assertEqual(components((40, 40, 1, 1, 10, 10)), 3 * 381)
        self.assertEqual(components((40, 40, 1, 1, 7, 7, 7)), 3 * 310)
        self.assertEqual(components((40, 40, 40, 1, 1, 1, 20, 20, 30)), 3 * 543)

    def test_one_of_five_alone_carries_nothing_beyond_the_others(self):
        for judges in (5, 6, 7, 8, 9):
            for wild in (1, 40):
                self.assertEqual(components((wild,) + (20,) * (judges - 1)), 1500)
                self.assertEqual(components((20,) * (judges - 1) + (wild,)), 1500)

    def test_each_is_taken_to_the_nearest_whole_by_itself(self):
        # 25 times 4/3 and 5/3 are 33.33 and 41.67.
        self.assertEqual(components((1, 1, 2)), 99)
        self.assertEqual(components((1, 2, 2)), 126)
        self.assertEqual(components((1, 1, 2), (1, 2, 2), (1, 1, 1)), 100)

    def test_a_half_away_from_0(self):
        # 25 times 1 and a half is 37.5; of 8 judges' 9 / 6 likewise.
        self.assertEqual(components((1, 1, 2, 2)), 114)
        self.assertEqual(components((1, 1, 1, 2), (1, 1, 1, 1), (1, 1, 1, 1)), 81)
        self.assertEqual(components((1, 1, 1, 1, 2, 2, 2, 2)), 114)

    def test_factor(self):
        self.assertEqual(components((4, 4, 4), factor=167), 501)
        self.assertEqual(components((4, 4, 4), factor=1000), 3000)
        self.assertEqual(components((4, 4, 4), factor=1), 3)
        self.assertEqual(components((1, 1, 1), factor=1), 1)
        # 150 and 75 times 1.67: 250.5 and 125.25; 75 times 1.33: 99.75.
        # (Each by itself, three times 50 would make 3 times 84.)
        self.assertEqual(components((2, 2, 2), factor=167), 251)
        self.assertEqual(components((1, 1, 1), factor=167), 125)
        self.assertEqual(components((1, 1, 1), factor=133), 100)
        self.assertEqual(components((40, 40, 40), factor=333), 9990)

    def test_factor_of_the_segment(self):
        calls = [begin(3, 100, 200), skater(), *program(), *program(free=1)]
        self.assertEqual(told(*calls)[4], [75, 0, 75, 0])
        self.assertEqual(told(*calls)[-1], [150, 0, 150, 0])
        calls[0] = begin(3, 333, 1)
        self.assertEqual(told(*calls)[4], [250, 0, 250, 0])
        self.assertEqual(told(*calls)[-1], [1, 0, 1, 0])

    def test_told_again(self):
        self.assertEqual(last(*skating(), even_marks(40), even_marks(4), end()), [300, 0, 300, 0])
        self.assertEqual(last(*skating(), even_marks(4), marks((0, 1, 1)), end()), [300, 0, 300, 0])


class PutTogether(unittest.TestCase):
    def test_what_it_is_given_stays(self):
        for numbers in ([3, 1, 2], [3, 1, 2, 5, 4], [9, 1, 9, 1, 9, 1, 9]):
            ahead = list(numbers)
            self.assertIsNot(put_together(numbers), numbers)
            self.assertEqual(numbers, ahead)

    def test_one_of_each_alone(self):
        self.assertEqual(put_together([5, 5, 1, 1, 3]), [1, 3, 5])
        self.assertEqual(put_together([2, 2, 2, 2, 2]), [2, 2, 2])


class Faults(unittest.TestCase):
    def test_none_told(self):
        self.assertEqual(taken_off(), 0)

    def test_falls(self):
        for falls, points in ((0, 0), (1, 1), (2, 2), (3, 4), (4, 6), (5, 9), (6, 12), (19, 51), (20, 54)):
            self.assertEqual(taken_off(faults(falls, 0, 0)), 100 * points, falls)

    def test_points_off(self):
        for off in (0, 1, 2, 5, 19, 20):
            self.assertEqual(taken_off(faults(0, off, 0)), 100 * off)

    def test_seconds(self):
        for seconds, points in ((0, 0), (1, 1), (4, 1), (5, 1), (6, 2), (10, 2), (11, 3), (295, 59),
                                (296, 60), (299, 60), (300, 60)):
            self.assertEqual(taken_off(faults(0, 0, seconds)), 100 * points, seconds)

    def test_together(self):
        self.assertEqual(taken_off(faults(3, 2, 6)), 800)
        self.assertEqual(taken_off(faults(20, 20, 300)), 13400)

    def test_told_again(self):
        self.assertEqual(taken_off(faults(5, 5, 5), faults(1, 0, 0)), 100)
        self.assertEqual(taken_off(faults(5, 5, 5), faults(0, 0, 0)), 0)
        self.assertEqual(taken_off(faults(1, 0, 0), faults(0, 2, 0), faults(0, 0, 11)), 300)

    def test_ahead_of_and_behind_other_calls(self):
        for calls in ([faults(1, 1, 1), even_marks(40), element()],
                      [even_marks(40), faults(1, 1, 1), element()],
                      [element(), even_marks(40), faults(1, 1, 1)]):
            self.assertEqual(last(*skating(), *calls, end()), [3120, 420, 3000, 300])

    def test_answers_0(self):
        self.assertEqual(told(*skating(), faults(), faults(20, 20, 300))[-2:], [[0], [0]])

    def test_beyond_the_bounds(self):
        for wrong in (LEAST, -2, -1, 21, 22, MOST):
            self.assertEqual(last(*skating(), faults(wrong, 0, 0)), [-1])
            self.assertEqual(last(*skating(), faults(0, wrong, 0)), [-1])
        for wrong in (LEAST, -5, -1, 301, 302, MOST):
            self.assertEqual(last(*skating(), faults(0, 0, wrong)), [-1])

    def test_refused_ones_change_nothing(self):
        for wrong in (faults(21, 1, 1), faults(1, 21, 1), faults(1, 1, 301), faults(-1, 0, 0),
                      faults(0, -1, 0), faults(0, 0, -1)):
            self.assertEqual(taken_off(wrong), 0)
            self.assertEqual(taken_off(faults(3, 2, 6), wrong), 800)

    def test_no_program(self):
        over = [begin(), skater(), *program()]
        for ahead in ([], [begin()], [begin(), skater()], [begin(), skater(), start(0, 1)], over):
            self.assertEqual(last(*ahead, faults()), [-2])
            self.assertEqual(last(*ahead, faults(-1, 21, 301)), [-2])

    def test_each_program_begins_with_none(self):
        calls = [begin(), skater(), *program(faults(1, 1, 1)), *program(free=1)]
        self.assertEqual(last(*calls), [75, 0, 75, 0])


class End(unittest.TestCase):
    def test_its_numbers_in_their_order(self):
        calls = [element("3Lz+3T", (1, 1, 1)), element("USp4", (-1, -1, -1)), element("ChSq1", (5, 5, 5))]
        # 1010 and 59, 240 less 24, nothing of the other steps in a short program.
        self.assertEqual(last(*skating(), *calls, even_marks(8), faults(1, 0, 3), end()),
                         [1685, 1285, 600, 200])

    def test_score_is_the_elements_and_the_components_less_what_is_taken_off(self):
        calls = told_texts("3Lz+3T 2A* USp4", (2, 2, 2))
        # 1010 and 118, 363 and 66, 240 and 48.
        self.assertEqual(last(*skating(), *calls, even_marks(4), faults(2, 1, 6), end()),
                         [1645, 1845, 300, 500])

    def test_score_that_would_be_below_0(self):
        self.assertEqual(last(*skating(), faults(1), even_marks(1), end()), [0, 0, 75, 100])
        self.assertEqual(last(*skating(), element(), faults(20, 20, 300), even_marks(1), end()),
                         [0, 420, 75, 13400])

    def test_score_of_0_and_1(self):
        self.assertEqual(last(begin(3, 133, 1), *skating()[1:], faults(1), even_marks(1), end()),
                         [0, 0, 100, 100])
        self.assertEqual(last(begin(3, 135, 1), *skating()[1:], faults(1), even_marks(1), end()),
                         [1, 0, 101, 100])

    def test_without_any_element(self):
        for ahead in (skating(), skating_free()):
            self.assertEqual(last(*ahead, even_marks(40), end()), [3000, 0, 3000, 0])

    def test_factors_of_short_and_free(self):
        calls = [begin(3, 167, 333), skater(), *program(element(), quarters=4),
                 *program(element(), free=1, quarters=4)]
        answers = told(*calls)
        self.assertEqual(answers[5], [921, 420, 501, 0])
        self.assertEqual(answers[-1], [1419, 420, 999, 0])

    def test_no_program(self):
        over = [begin(), skater(), *program()]
        for ahead in ([], [begin()], [begin(), skater()], [begin(), skater(), start(0, 1)], over,
                      skating() + [begin()], skating() + [even_marks(), begin(), skater()]):
            self.assertEqual(last(*ahead, end()), [-2])

    def test_no_marks(self):
        self.assertEqual(last(*skating(), end()), [-4])
        self.assertEqual(last(*skating(), element(), faults(), end()), [-4])
        self.assertEqual(last(*skating(), marks((0, 1, 1)), end()), [-4])
        self.assertEqual(last(*skating_free(), end()), [-4])

    def test_without_marks_the_program_goes_on(self):
        self.assertEqual(told(*skating(), element(), faults(1), end(), end(), element("2A"), start(),
                              even_marks(4), end())[-6:],
                         [[-4], [-4], [1], [-3], [0], [950, 750, 300, 100]])

    def test_the_program_is_over(self):
        over = [begin(), skater(), *program(element())]
        for call in (element(), even_marks(), faults(), end()):
            self.assertEqual(last(*over, call), [-2])
        self.assertEqual(last(*over, start(0, 0)), [-4])
        self.assertEqual(last(*over, start(0, 1)), [0])

    def test_refused_elements_have_no_part(self):
        wrong = [element("x"), element(second=2), element(grades=(0, 0, 6)), element("3" * 41)]
        self.assertEqual(last(*skating(), *wrong, element(), *wrong, even_marks(), end()),
                         [495, 420, 75, 0])
        self.assertEqual(last(*skating(), *[element("USpB")] * 20, element(), even_marks(), end()),
                         [175, 100, 75, 0])

    def test_every_number_of_judges(self):
        for judges in range(3, 10):
            grades = (1,) * judges
            self.assertEqual(last(begin(judges), skater(), *program(element("4A", grades), judges=judges)),
                             [1450, 1375, 75, 0])


if __name__ == "__main__":
    unittest.main()
