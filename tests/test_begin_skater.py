"""begin and skater: promise 1."""

import unittest

from tests.calling import LEAST, MOST, begin, element, last, skater, skating, start, told


class Begin(unittest.TestCase):
    def test_bounds_that_are_taken(self):
        for call in (begin(3), begin(4), begin(8), begin(9), begin(5, 1, 1000),
                     begin(5, 1000, 1), begin(9, 1000, 1000), begin(3, 1, 1), begin(7, 167, 333)):
            self.assertEqual(told(call), [[0]], call)

    def test_numbers_beyond_the_bounds(self):
        for judges in (LEAST, -5, -1, 0, 1, 2, 10, 11, MOST):
            self.assertEqual(told(begin(judges)), [[-1]], judges)
        for factor in (LEAST, -100, -1, 0, 1001, 1002, MOST):
            self.assertEqual(told(begin(5, factor, 100)), [[-1]], factor)
            self.assertEqual(told(begin(5, 100, factor)), [[-1]], factor)

    def test_new_one_takes_the_skaters(self):
        self.assertEqual(told(begin(), skater(), skater(), begin(), start(0), skater(), start(1)),
                         [[0], [0], [1], [0], [-1], [0], [-1]])

    def test_new_one_takes_the_program_being_skated(self):
        self.assertEqual(last(*skating(), element(), begin(), element()), [-2])
        self.assertEqual(last(*skating(), begin(), skater(), start()), [0])
        self.assertEqual(last(*skating(), element(), begin(), skater(), start(), element()), [0])

    def test_new_one_brings_its_own_judges(self):
        grades = (0, 0, 0, 0, 0)
        self.assertEqual(told(*skating(3), *skating(5), element(grades=(0, 0, 0)),
                              element(grades=grades))[-2:], [[-1], [0]])

    def test_refused_one_changes_nothing(self):
        for wrong in (begin(2), begin(10), begin(5, 0, 1), begin(5, 1, 1001)):
            self.assertEqual(told(wrong, skater()), [[-1], [-2]])
            self.assertEqual(told(*skating(), element(), wrong, element(), skater()),
                             [[0], [0], [0], [0], [-1], [1], [1]])


class Skater(unittest.TestCase):
    def test_ahead_of_any_competition(self):
        self.assertEqual(told(skater(), skater()), [[-2], [-2]])

    def test_numbers_from_0_on_up_to_thirty(self):
        calls = [begin()] + [skater()] * 32
        expected = [[0]] + [[number] for number in range(30)] + [[-5], [-5]]
        self.assertEqual(told(*calls), expected)

    def test_anew_behind_a_new_begin(self):
        calls = [begin()] + [skater()] * 31 + [begin(), skater(), skater()]
        self.assertEqual(told(*calls)[-4:], [[-5], [0], [0], [1]])

    def test_refused_ones_add_none(self):
        calls = [begin()] + [skater()] * 31
        self.assertEqual(told(*calls, start(30), start(29))[-2:], [[-1], [0]])

    def test_while_a_program_is_being_skated(self):
        self.assertEqual(told(*skating(), skater(), element())[-2:], [[1], [0]])


if __name__ == "__main__":
    unittest.main()
