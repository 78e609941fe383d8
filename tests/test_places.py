"""sheet, places and all: promise 5, and 'Places in a segment'."""

import unittest

from tests.calling import LEAST, MOST, begin, element, end, even_marks, faults, in_all, last, marks, places
from tests.calling import program, sheet, skater, skating, skating_free, start, told, told_texts

SHORT = 0
FREE = 1


def scored(number, free, texts="", quarters=(1, 1, 1), falls=0):
    """A program of these texts; each judge gives the components these quarters."""
    return [start(number, free), *told_texts(texts), faults(falls),
            marks(*[(mark,) * 3 for mark in quarters]), end()]


def points(number, free, quarters):
    """A program without elements that's worth 25 for each of 3 to 120 quarters."""
    each = (min(quarters - 2, 40), min(max(quarters - 41, 1), 40), max(quarters - 80, 1))
    if sum(each) != quarters:
        raise AssertionError("so many quarters can't be told: %d" % quarters)
    return scored(number, free, "", each)


def contest(skaters):
    return [begin()] + [skater()] * skaters


def rows(answer):
    """What places and all tell, in threes, behind a count that fits."""
    if len(answer) != 1 + 3 * answer[0]:
        raise AssertionError("a count that doesn't fit: %r" % (answer,))
    return [tuple(answer[place:place + 3]) for place in range(1, len(answer), 3)]


class Sheet(unittest.TestCase):
    def test_numbers_in_their_order(self):
        calls = [element("3Lz+3T", (1, 1, 1)), element("USp4", (-1, -1, -1)),
                 element("ChSq1", (5, 5, 5)), element("3Lz", (5, 5, 5)), element("2A", (1, 2, 3), 1)]
        self.assertEqual(last(begin(), skater(), *program(*calls), sheet()),
                         [5, 1010, 59, 240, -24, 0, 0, 0, 0, 363, 66])
        self.assertEqual(last(*skating_free(), *calls, even_marks(), end(), sheet(0, 1)),
                         [5, 1010, 59, 240, -24, 200, 100, 590, 295, 363, 66])

    def test_without_any_element(self):
        self.assertEqual(last(begin(), skater(), *program(), sheet()), [0])
        self.assertEqual(last(begin(), skater(), *program(), *program(free=1), sheet(0, 1)), [0])

    def test_of_twenty(self):
        answer = last(*skating(), *[element("USpB", (5, 5, 5))] * 21, even_marks(), end(), sheet())
        self.assertEqual(answer, [20, 100, 50] + [0, 0] * 19)

    def test_each_skater_and_segment_has_its_own(self):
        calls = contest(2) + scored(0, SHORT, "3T") + scored(1, SHORT, "3S")
        calls = calls + scored(1, FREE, "3F") + scored(0, FREE, "3A")
        for number, free, worth in ((0, SHORT, 420), (1, SHORT, 430), (0, FREE, 800), (1, FREE, 530)):
            self.assertEqual(last(*calls, sheet(number, free)), [1, worth, 0])

    def test_not_skated(self):
        self.assertEqual(told(*contest(1), sheet(0, 0), sheet(0, 1))[-2:], [[-4], [-4]])
        self.assertEqual(told(*contest(2), *program(), sheet(0, 1), sheet(1, 0), sheet(1, 1))[-3:],
                         [[-4], [-4], [-4]])

    def test_while_it_is_being_skated(self):
        self.assertEqual(told(*skating(), element(), even_marks(), sheet())[-1], [-4])
        self.assertEqual(told(*skating_free(), element(), even_marks(), sheet(0, 1), sheet(0, 0))[-2:],
                         [[-4], [0]])

    def test_as_of_start(self):
        for free in (LEAST, -1, 2, MOST):
            self.assertEqual(last(*contest(1), *program(), sheet(0, free)), [-1])
            self.assertEqual(last(*contest(1), sheet(0, free)), [-1])
        for number in (LEAST, -2, -1, 1, 2, 30, MOST):
            for free in (0, 1, 2):
                self.assertEqual(last(*contest(1), *program(), sheet(number, free)), [-1])

    def test_ahead_of_any_competition(self):
        self.assertEqual(told(sheet(0, 0), sheet(0, 1), sheet(-1, 2)), [[-1]] * 3)
        self.assertEqual(told(begin(), sheet(0, 0)), [[0], [-1]])

    def test_changes_nothing(self):
        calls = [element(), sheet(), sheet(0, 2), sheet(1, 0), element("2A"), even_marks(), end()]
        self.assertEqual(told(*skating(), *calls, sheet(), sheet())[-3:],
                         [[825, 750, 75, 0], [2, 420, 0, 330, 0], [2, 420, 0, 330, 0]])


class InASegment(unittest.TestCase):
    def test_none_yet(self):
        for ahead in ([], [begin()], contest(3), skating()):
            self.assertEqual(told(*ahead, places(0), places(1))[-2:], [[0], [0]])
        self.assertEqual(told(*contest(1), *program(), places(1))[-1], [0])

    def test_free_is_not_0_or_1(self):
        for free in (LEAST, -1, 2, 3, MOST):
            for ahead in ([], [begin()], contest(1) + program(), skating()):
                self.assertEqual(last(*ahead, places(free)), [-1])

    def test_more_first(self):
        calls = contest(4) + points(0, SHORT, 10) + points(1, SHORT, 30)
        calls = calls + points(3, SHORT, 20) + points(2, SHORT, 40)
        self.assertEqual(last(*calls, places(0)), [4, 2, 1, 1000, 1, 2, 750, 3, 3, 500, 0, 4, 250])
        self.assertEqual(last(*calls, places(1)), [0])

    def test_one_alone(self):
        self.assertEqual(last(*contest(3), *points(1, SHORT, 3), places(0)), [1, 1, 1, 75])

    def test_by_the_score_and_not_what_it_is_made_of(self):
        calls = contest(2) + scored(0, SHORT, "3Lz", falls=5) + scored(1, SHORT, "USpB")
        self.assertEqual(rows(last(*calls, places(0))), [(1, 1, 175), (0, 2, 0)])

    def ties(self, free, programs):
        """The places, if each skater skates such a program of this segment."""
        calls = contest(len(programs))
        for number, told_of_it in enumerate(programs):
            if free == FREE:
                calls = calls + points(number, SHORT, 3)
            calls = calls + scored(number, free, *told_of_it)
        return rows(last(*calls, places(free)))

    def test_ties_of_a_short_one_by_its_elements(self):
        self.assertEqual(self.ties(SHORT, [("", (3, 3, 3)), ("StSqB", (1, 1, 1))]),
                         [(1, 1, 225), (0, 2, 225)])
        self.assertEqual(self.ties(SHORT, [("StSqB", (1, 1, 1)), ("", (3, 3, 3))]),
                         [(0, 1, 225), (1, 2, 225)])

    def test_ties_of_a_free_one_by_its_components(self):
        self.assertEqual(self.ties(FREE, [("", (3, 3, 3)), ("StSqB", (1, 1, 1))]),
                         [(0, 1, 225), (1, 2, 225)])
        self.assertEqual(self.ties(FREE, [("StSqB", (1, 1, 1)), ("", (3, 3, 3))]),
                         [(1, 1, 225), (0, 2, 225)])

    def test_grades_are_a_part_of_what_elements_came_to(self):
        # Both have steps of 150; the first one's grades make 75, the other's components 75 more.
        calls = [begin(), skater(), skater(), start(0), element("StSqB", (5, 5, 5)), even_marks(), end(),
                 start(1), element("StSqB"), marks((1, 1, 1), (1, 1, 1), (4, 4, 4)), end()]
        self.assertEqual(rows(last(*calls, places(0))), [(0, 1, 300), (1, 2, 300)])

    def test_alike_in_both_in_the_order_of_their_numbers(self):
        alike = ("StSqB", (1, 1, 1))
        for free in (SHORT, FREE):
            self.assertEqual(self.ties(free, [alike, alike, alike]), [(0, 1, 225), (1, 1, 225), (2, 1, 225)])
            self.assertEqual(self.ties(free, [("", (1, 1, 1)), alike, alike, ("", (1, 1, 2)), alike]),
                             [(1, 1, 225), (2, 1, 225), (4, 1, 225), (3, 4, 100), (0, 5, 75)])

    def test_alike_though_skated_in_another_order(self):
        calls = contest(3) + points(2, SHORT, 5) + points(0, SHORT, 5) + points(1, SHORT, 6)
        self.assertEqual(rows(last(*calls, places(0))), [(1, 1, 150), (0, 2, 125), (2, 2, 125)])

    def test_alike_in_both_though_other_numbers_differ(self):
        # A point off makes up for more components in the short one, for more elements in the free one.
        self.assertEqual(self.ties(SHORT, [("StSqB", (1, 1, 1)), ("StSqB", (1, 1, 5), 1)]),
                         [(0, 1, 225), (1, 1, 225)])
        self.assertEqual(self.ties(FREE, [("StSqB", (1, 1, 1)), ("StSqB", (1, 1, 5), 1)]),
                         [(1, 1, 225), (0, 2, 225)])
        self.assertEqual(self.ties(FREE, [("StSqB", (1, 1, 1)), ("CoSp3", (1, 1, 1), 1)]),
                         [(0, 1, 225), (1, 1, 225)])
        self.assertEqual(self.ties(SHORT, [("StSqB", (1, 1, 1)), ("CoSp3", (1, 1, 1), 1)]),
                         [(1, 1, 225), (0, 2, 225)])

    def test_ties_at_0(self):
        calls = contest(3) + scored(0, SHORT, "", (1, 1, 1), 9) + scored(1, SHORT, "USpB", (1, 1, 1), 9)
        calls = calls + scored(2, SHORT, "", (2, 2, 2), 9)
        self.assertEqual(rows(last(*calls, places(0))), [(1, 1, 0), (0, 2, 0), (2, 2, 0)])

    def test_the_components_with_their_factor(self):
        # 75 and 83, times a tenth both are 8.
        calls = [begin(3, 10, 10), skater(), skater(), *program(), *program(number=1), *program(free=1)]
        calls = calls + scored(1, FREE, "", (1, 1, 1))[:-2]
        calls = calls + [marks((1, 1, 2), (1, 1, 1), (1, 1, 1)), end()]
        self.assertEqual(rows(last(*calls, places(1))), [(0, 1, 8), (1, 1, 8)])

    def test_one_being_skated_is_not_among_them(self):
        self.assertEqual(last(*contest(2), *points(1, SHORT, 3), start(0), even_marks(40), places(0)),
                         [1, 1, 1, 75])

    def test_thirty(self):
        calls = contest(30)
        for number in range(30):
            calls = calls + [start(number), even_marks(number + 1), end()]
        self.assertEqual(rows(last(*calls, places(0))),
                         [(29 - place, place + 1, 75 * (30 - place)) for place in range(30)])


class InAll(unittest.TestCase):
    def test_none_yet(self):
        for ahead in ([], [begin()], contest(3), skating()):
            self.assertEqual(last(*ahead, in_all()), [0])

    def test_by_both_scores_together(self):
        calls = contest(3)
        for number, short, free in ((0, 10, 30), (1, 30, 20), (2, 20, 10)):
            calls = calls + points(number, SHORT, short) + points(number, FREE, free)
        self.assertEqual(last(*calls, in_all()), [3, 1, 1, 1250, 0, 2, 1000, 2, 3, 750])

    def test_short_one_alone(self):
        calls = contest(4) + points(1, SHORT, 10) + points(3, SHORT, 20)
        self.assertEqual(last(*calls, in_all()), [2, 3, 1, 500, 1, 2, 250])

    def test_those_who_skated_the_free_one_are_ahead(self):
        calls = contest(3) + points(0, SHORT, 120) + points(1, SHORT, 3) + points(2, SHORT, 5)
        self.assertEqual(rows(last(*calls, in_all())), [(0, 1, 3000), (2, 2, 125), (1, 3, 75)])
        calls = calls + points(1, FREE, 3)
        self.assertEqual(rows(last(*calls, in_all())), [(1, 1, 150), (0, 2, 3000), (2, 3, 125)])
        calls = calls + points(2, FREE, 3)
        self.assertEqual(rows(last(*calls, in_all())), [(2, 1, 200), (1, 2, 150), (0, 3, 3000)])

    def test_a_free_one_of_0_is_ahead_too(self):
        calls = contest(2) + points(0, SHORT, 9) + points(1, SHORT, 9) + scored(1, FREE, "", (1, 1, 1), 9)
        self.assertEqual(rows(last(*calls, in_all())), [(1, 1, 225), (0, 2, 225)])

    def test_a_free_one_being_skated_is_not_among_them(self):
        calls = contest(2) + points(0, SHORT, 10) + points(1, SHORT, 9) + [start(1, 1), even_marks(40)]
        self.assertEqual(rows(last(*calls, in_all())), [(0, 1, 250), (1, 2, 225)])
        self.assertEqual(rows(last(*calls, end(), in_all())), [(1, 1, 3225), (0, 2, 250)])

    def test_ties_by_the_free_one(self):
        calls = contest(3)
        for number, short, free in ((0, 30, 10), (1, 10, 30), (2, 20, 20)):
            calls = calls + points(number, SHORT, short) + points(number, FREE, free)
        self.assertEqual(rows(last(*calls, in_all())), [(1, 1, 1000), (2, 2, 1000), (0, 3, 1000)])

    def test_alike_in_the_order_of_their_numbers(self):
        calls = contest(4)
        for number, short, free in ((3, 10, 20), (0, 10, 10), (1, 10, 20), (2, 20, 10)):
            calls = calls + points(number, SHORT, short) + points(number, FREE, free)
        self.assertEqual(rows(last(*calls, in_all())),
                         [(1, 1, 750), (3, 1, 750), (2, 3, 750), (0, 4, 500)])

    def test_alike_in_the_short_one_alone(self):
        calls = contest(4) + points(0, SHORT, 3) + points(3, SHORT, 9) + points(1, SHORT, 9)
        self.assertEqual(rows(last(*calls, in_all())), [(1, 1, 225), (3, 1, 225), (0, 3, 75)])

    def test_what_breaks_ties_in_a_segment_has_no_part(self):
        calls = contest(2) + scored(0, SHORT, "", (3, 3, 3)) + scored(1, SHORT, "StSqB")
        self.assertEqual(rows(last(*calls, in_all())), [(0, 1, 225), (1, 1, 225)])
        calls = calls + scored(0, FREE, "StSqB") + scored(1, FREE, "", (3, 3, 3))
        self.assertEqual(rows(last(*calls, in_all())), [(0, 1, 450), (1, 1, 450)])


class NewBegin(unittest.TestCase):
    def test_what_was_is_gone(self):
        ahead = contest(2) + program(element()) + program(element(), free=1) + program(number=1)
        self.assertEqual(told(*ahead, begin(), places(0), places(1), in_all(), sheet(0, 0), skater(),
                              sheet(0, 0), start(0, 1), start(0, 0))[-9:],
                         [[0], [0], [0], [0], [-1], [0], [-4], [-4], [0]])

    def test_a_program_being_skated_is_gone(self):
        ahead = skating() + [element("3A"), faults(5), even_marks(40)]
        self.assertEqual(told(*ahead, begin(), end(), faults(), places(0))[-3:], [[-2], [-2], [0]])
        self.assertEqual(told(*ahead, begin(), skater(), start(), end(), even_marks(), end(), sheet())[-4:],
                         [[-4], [0], [75, 0, 75, 0], [0]])

    def test_refused_one_leaves_all(self):
        ahead = contest(1) + program(element())
        for wrong in (begin(2), begin(3, 0), begin(3, 1, 1001)):
            self.assertEqual(told(*ahead, wrong, places(0), in_all(), sheet())[-4:],
                             [[-1], [1, 0, 1, 495], [1, 0, 1, 495], [1, 420, 0]])
            self.assertEqual(last(*skating(), element(), even_marks(), wrong, end()), [495, 420, 75, 0])

    def test_new_factors_and_judges(self):
        self.assertEqual(last(*contest(1), *program(), begin(5, 200, 1), skater(), *program(judges=5)),
                         [150, 0, 150, 0])


if __name__ == "__main__":
    unittest.main()
