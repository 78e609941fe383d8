"""start, element and marks: promises 3 and 4."""

import unittest

from tests.calling import LEAST, MOST, begin, element, end, even_marks, last, marks, places, program, read
from tests.calling import sheet, skater, skating, start, told


class Start(unittest.TestCase):
    def test_short_one(self):
        self.assertEqual(last(begin(), skater(), start(0, 0)), [0])
        self.assertEqual(last(begin(), skater(), skater(), start(1, 0)), [0])

    def test_free_is_not_0_or_1(self):
        for free in (LEAST, -1, 2, 3, MOST):
            self.assertEqual(last(begin(), skater(), start(0, free)), [-1], free)

    def test_no_such_skater(self):
        self.assertEqual(last(begin(), start(0)), [-1])
        for number in (LEAST, -2, -1, 2, 3, 30, MOST):
            self.assertEqual(last(begin(), skater(), skater(), start(number)), [-1], number)

    def test_ahead_of_any_competition(self):
        for number in (LEAST, -1, 0, 1, MOST):
            self.assertEqual(told(start(number, 0)), [[-1]])
            self.assertEqual(told(start(number, 1)), [[-1]])

    def test_while_one_is_being_skated(self):
        self.assertEqual(told(*skating(), start(0, 0), start(0, 1))[-2:], [[-3], [-3]])
        self.assertEqual(told(*skating(), skater(), start(1, 0), start(1, 1))[-2:], [[-3], [-3]])

    def test_free_one_ahead_of_the_short_one(self):
        self.assertEqual(told(begin(), skater(), start(0, 1), start(0, 1))[-2:], [[-4], [-4]])

    def test_one_that_was_skated(self):
        self.assertEqual(told(begin(), skater(), skater(), *program(), start(0, 0), start(1, 1),
                              start(0, 1))[-3:], [[-4], [-4], [0]])
        over = [begin(), skater(), skater(), *program(), *program(free=1)]
        self.assertEqual(told(*over, start(0, 0), start(0, 1), start(1, 1), start(1, 0))[-4:],
                         [[-4], [-4], [-4], [0]])

    def test_refused_one_that_was_skated_keeps_its_score(self):
        self.assertEqual(told(begin(), skater(), *program(element()), start(0, 0), even_marks(40), end(),
                              places(0))[-4:], [[-4], [-2], [-2], [1, 0, 1, 495]])

    def test_while_another_is_being_skated(self):
        self.assertEqual(told(begin(), skater(), skater(), *program(), start(1, 0), start(0, 0),
                              start(0, 1), start(2, 0))[-3:], [[-3], [-3], [-1]])

    def test_order_of_refusals(self):
        self.assertEqual(told(*skating(), start(0, 2), start(1, 0), start(1, 1), start(-1, 1))[-4:],
                         [[-1]] * 4)
        self.assertEqual(last(*skating(), start(0, 1)), [-3])

    def test_refused_one_changes_nothing(self):
        for wrong in (start(0, 2), start(1, 0), start(0, 1)):
            self.assertEqual(told(begin(), skater(), wrong, element(), marks(), start())[-3:],
                             [[-2], [-2], [0]])
        for wrong in (start(0, 2), start(1, 0), start(0, 0), start(0, 1)):
            self.assertEqual(told(*skating(), element(), wrong, element())[-1], [1])


class Element(unittest.TestCase):
    def test_counts_up_from_0(self):
        texts = ("3T", "USp1", "StSqB", "ChSq1", "3T+Eu+3S", "3T", "3T")
        calls = [element(text, second=number % 2) for number, text in enumerate(texts)]
        self.assertEqual(told(*skating(), *calls)[3:], [[number] for number in range(7)])

    def test_no_program(self):
        for ahead in ([], [begin()], [begin(), skater()], [begin(), skater(), start(0, 1)]):
            self.assertEqual(last(*ahead, element()), [-2])
            self.assertEqual(last(*ahead, element("x", (9,), 7)), [-2])
            self.assertEqual(last(*ahead, element([256], (), 1)), [-2])

    def refuses(self, call, number, judges=3):
        self.assertEqual(told(*skating(judges), call, element(grades=(0,) * judges))[3:],
                         [[number], [0]], call)

    def test_text_that_is_none(self):
        for text in ("3" * 41, "3" * 50, [-1], [256], [51, 84, LEAST], [MOST]):
            self.refuses(element(text), -1)

    def test_second_is_not_0_or_1(self):
        for second in (LEAST, -1, 2, MOST):
            self.refuses(element(second=second), -1)

    def test_number_of_grades(self):
        for judges in (3, 6, 9):
            for number in (0, 1, judges - 1, judges + 1, 50):
                self.refuses(element(grades=(0,) * number), -1, judges)

    def test_worth_of_a_grade(self):
        for grade in (LEAST, -6, 6, 7, MOST):
            for place in range(3):
                grades = [0, 0, 0]
                grades[place] = grade
                self.refuses(element(grades=grades), -1)
        for grades in ((-5, 5, 0), (5, 5, 5), (-5, -5, -5), (-4, 4, 1)):
            self.assertEqual(last(*skating(), element(grades=grades)), [0])

    def test_no_element(self):
        for text in ("", "Eu", "3T+3T+3T+3T", "3Te", "USp5", "ChSq2", " 3T", "3" * 40):
            self.refuses(element(text), -4)

    def test_wrong_numbers_ahead_of_no_element(self):
        for call in (element("x", (0, 0)), element("x", (0, 0, 6)), element("x", second=2),
                     element("x" * 41)):
            self.refuses(call, -1)

    def test_twenty_and_no_more(self):
        full = skating() + [element("StSq1", second=1)] * 20
        self.assertEqual(told(*full)[3:], [[number] for number in range(20)])
        self.assertEqual(told(*full, element(), element("3F"), marks())[-3:], [[-5], [-5], [0]])
        self.assertEqual(last(*full, element("x")), [-4])
        self.assertEqual(last(*full, element("x", second=2)), [-1])
        self.assertEqual(last(*full, element(grades=(0, 0))), [-1])

    def test_begins_at_0_in_each_program(self):
        calls = [begin(), skater(), *program(element(), element()), start(0, 1), element(), element()]
        self.assertEqual(told(*calls)[-3:], [[0], [0], [1]])

    def test_is_kept_as_it_was_told(self):
        self.assertEqual(last(begin(), skater(), *program(element("3T", (5, -3, 4), 1)), sheet()),
                         [1, 462, 84])


class Marks(unittest.TestCase):
    def test_taken_and_told_again(self):
        self.assertEqual(told(*skating(), marks(), element(), marks((1, 40, 1)), element())[3:],
                         [[0], [0], [0], [1]])
        nine = (1, 2, 3, 4, 36, 37, 38, 39, 40)
        self.assertEqual(last(*skating(9), marks(nine, nine, nine)), [0])

    def test_no_program(self):
        for ahead in ([], [begin()], [begin(), skater()], [begin(), skater(), start(0, 1)]):
            self.assertEqual(last(*ahead, marks()), [-2])
            self.assertEqual(last(*ahead, marks((), (0,), (41,))), [-2])

    def each_list(self, judges, row):
        """The row in the place of each list, the two others well told."""
        right = (20,) * judges
        return marks(row, right, right), marks(right, row, right), marks(right, right, row)

    def test_number_of_marks(self):
        for judges in (3, 5, 9):
            for number in (0, 1, judges - 1, judges + 1, 50):
                for call in self.each_list(judges, (20,) * number):
                    self.assertEqual(last(*skating(judges), call), [-1])

    def test_worth_of_a_mark(self):
        for mark in (LEAST, -1, 0, 41, 42, MOST):
            for place in range(3):
                row = [20, 20, 20]
                row[place] = mark
                for call in self.each_list(3, row):
                    self.assertEqual(last(*skating(), call), [-1])
        for mark in (1, 40):
            for call in self.each_list(3, (mark, mark, mark)):
                self.assertEqual(last(*skating(), call), [0])

    def test_these_are_kept_and_refused_ones_are_not(self):
        ahead = [*skating(), marks((1, 2, 3), (4, 5, 6), (7, 8, 9))]
        self.assertEqual(last(*ahead, end()), [375, 0, 375, 0])
        self.assertEqual(last(*ahead, marks((9, 9, 9), (9, 9, 9), (0, 9, 9)), end()), [375, 0, 375, 0])
        self.assertEqual(last(*ahead, marks((10, 20, 30), (11, 21, 31), (12, 22, 32)), end()),
                         [1575, 0, 1575, 0])

    def test_refused_ones_change_nothing(self):
        self.assertEqual(told(*skating(), element(), marks((0, 1, 1)), element(), marks())[-3:],
                         [[-1], [1], [0]])


class Between(unittest.TestCase):
    def test_reading_and_new_skaters_leave_the_program(self):
        self.assertEqual(told(*skating(), element(), read("3T"), skater(), element())[-1], [1])


if __name__ == "__main__":
    unittest.main()
