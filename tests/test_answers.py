"""The interface: one list handed in, one given back."""

import unittest

from skatingmarks.contest import answers
from tests.calling import begin, element, end, even_marks, faults, in_all, marks, places, program, read
from tests.calling import sheet, skater, skating, start, told


def flat(calls):
    return [number for call in calls for number in call]


class Answers(unittest.TestCase):
    def test_one_call(self):
        self.assertEqual(answers([1, 3, 1, 1]), [1, 0])
        self.assertEqual(answers([1, 2, 1, 1]), [1, -1])
        self.assertEqual(answers([2]), [1, -2])
        self.assertEqual(answers([3, 2, 51, 84]), [6, 0, 0, 3, 0, 0, 420])
        self.assertEqual(answers([3, 0]), [1, -4])
        self.assertEqual(answers([3, 5, 67, 104, 83, 113, 49]), [2, 3, 200])
        self.assertEqual(answers([4, 0, 0]), [1, -1])
        self.assertEqual(answers([5, 0, 2, 51, 84, 3, 0, 0, 0]), [1, -2])
        self.assertEqual(answers([5, 0, 0, 0]), [1, -2])
        self.assertEqual(answers([6, 0, 0, 0]), [1, -2])
        self.assertEqual(answers([7, 0, 0, 0]), [1, -2])
        self.assertEqual(answers([8]), [1, -2])
        self.assertEqual(answers([9, 0, 0]), [1, -1])
        self.assertEqual(answers([10, 0]), [1, 0])
        self.assertEqual(answers([10, 2]), [1, -1])
        self.assertEqual(answers([11]), [1, 0])

    def test_many_calls(self):
        calls = [begin(), skater(), read("3Lz+Eu+3S"), start(), element(), read("FUSp2"), marks(),
                 read("StSq4"), read("Eu"), start(), element()]
        self.assertEqual(answers(flat(calls)), [
            1, 0, 1, 0, 16, 0, 4, 3, 0, 0, 590, 6, 1, 0, 0, 50, 1, 3, 0, 0, 430, 1, 0, 1, 0,
            4, 1, 10, 2, 200, 1, 0, 3, 2, 4, 390, 1, -4, 1, -3, 1, 1])

    def test_150_calls(self):
        calls = skating() + [element()] * 20 + [marks(), skater(), read("4A")] * 42 + [start()]
        self.assertEqual(len(calls), 150)
        found = told(*calls)
        self.assertEqual(found[-1], [-3])
        self.assertEqual(found[23:-1:3], [[0]] * 42)
        self.assertEqual(found[24:-1:3], [[number] for number in range(1, 30)] + [[-5]] * 13)
        self.assertEqual(found[25:-1:3], [[0, 5, 4, 0, 0, 1250]] * 42)

    def test_every_call(self):
        self.assertEqual(answers([
            1, 3, 100, 100, 2, 4, 0, 0, 5, 1, 2, 51, 84, 3, 1, 1, 1, 7, 1, 0, 6,
            6, 3, 4, 4, 4, 3, 8, 8, 8, 3, 12, 12, 12, 8, 9, 0, 0, 10, 0, 11, 3, 2, 51, 84]), [
                1, 0, 1, 0, 1, 0, 1, 0, 1, 0, 1, 0, 4, 804, 504, 600, 300, 3, 1, 462, 42,
                4, 1, 0, 1, 804, 4, 1, 0, 1, 804, 6, 0, 0, 3, 0, 0, 420])

    def test_numbers_behind_the_first_may_be_below_0(self):
        calls = [*skating(), element("3A", (-5, -5, -5)), even_marks(), end(), sheet()]
        self.assertEqual(answers(flat(calls))[-9:], [4, 475, 400, 75, 0, 3, 1, 800, -400])

    def test_thirty_skaters_and_ten_programs_in_150_calls(self):
        calls = [begin()] + [skater()] * 30
        for number in range(29):
            calls = calls + program(number=number, quarters=number + 1)
        calls = calls + [places(0), in_all(), places(1)]
        self.assertEqual(len(calls), 150 - 29)
        found = told(*calls)
        self.assertEqual(found[-3], [29] + flat([[number, 29 - number, 75 * (number + 1)]
                                                 for number in range(28, -1, -1)]))
        self.assertEqual(found[-2:], [found[-3], [0]])

    def test_long_rows_are_taken_whole(self):
        wide = [20] * 50
        calls = skating() + [marks(wide, wide, wide), element([51] * 50, wide), read([51] * 50)] * 49
        self.assertEqual(told(*calls), [[0]] * 3 + [[-1]] * 147)

    def test_what_is_handed_in_stays_and_nothing_is_kept(self):
        calls = flat(skating(5) + [
            element("3T", (5, -5, 3, 1, 2), 1), read("3T+3T"), read("x"), element("3T", (0, 4, 1, 3, 2)),
            skater(), marks((9, 1, 8, 2, 7), (40, 1, 39, 2, 38), (5, 4, 3, 2, 1)), faults(3, 2, 1), end(),
            sheet(), *program(element("3S", (5, 4, 3, 2, 1)), number=1, judges=5), places(0), places(1),
            in_all(), *program(free=1, judges=5), places(1), in_all()])
        ahead = list(calls)
        first = answers(calls)
        self.assertEqual(calls, ahead)
        first_again = list(first)
        second = answers(calls)
        self.assertEqual(second, first_again)
        self.assertEqual(calls, ahead)
        self.assertEqual(answers([2]), [1, -2])
        self.assertIsNot(first, second)

    def test_one_answer_is_a_list_of_whole_numbers(self):
        answer = answers(flat(skating() + [read("3Fe<"), element(), marks()]))
        self.assertIs(type(answer), list)
        self.assertEqual({type(number) for number in answer}, {int})


if __name__ == "__main__":
    unittest.main()
