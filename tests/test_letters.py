"""The letters of steps, and the strings of ways."""

import unittest

from racelogs.ways import Way, hanging_lines, letters_of_step
from tests.sailing import fare_of

MARK = [(0, 0)]


def letters(marks, c, d):
    return letters_of_step(hanging_lines(marks), c, d)


def string(marks, *places):
    way = Way(hanging_lines(marks), places[0])
    for place in places[1:]:
        way.go_to(place)
    return way.string


class TestLetters(unittest.TestCase):
    def test_east_and_west_below_the_mark(self):
        self.assertEqual(letters(MARK, (-5, -1), (5, -1)), [1])
        self.assertEqual(letters(MARK, (5, -1), (-5, -1)), [-1])

    def test_above_the_mark(self):
        self.assertEqual(letters(MARK, (-5, 1), (5, 1)), [])
        self.assertEqual(letters(MARK, (5, 1), (-5, 1)), [])

    def test_far_below(self):
        self.assertEqual(letters(MARK, (-1, -1000000), (1, -1000000)), [1])

    def test_what_counts_is_where_it_passes_at_the_mark_s_x(self):
        self.assertEqual(letters(MARK, (-1, -3), (3, 8)), [1])
        self.assertEqual(letters(MARK, (-1, -2), (3, 8)), [])
        self.assertEqual(letters(MARK, (3, 8), (-1, -3)), [-1])
        self.assertEqual(letters(MARK, (3, 8), (-1, -2)), [])
        self.assertEqual(letters(MARK, (-1, 2), (3, -7)), [1])
        self.assertEqual(letters(MARK, (-1, 2), (3, -5)), [])
        self.assertEqual(letters(MARK, (3, -7), (-1, 2)), [-1])
        self.assertEqual(letters(MARK, (3, -5), (-1, 2)), [])
        self.assertEqual(letters(MARK, (-1, 2), (1, -3)), [1])
        self.assertEqual(letters(MARK, (-1, 3), (1, -2)), [])

    def test_an_end_at_the_mark_s_x_is_not_to_the_west(self):
        self.assertEqual(letters(MARK, (-5, -1), (0, -1)), [1])
        self.assertEqual(letters(MARK, (0, -1), (5, -1)), [])
        self.assertEqual(letters(MARK, (5, -1), (0, -1)), [])
        self.assertEqual(letters(MARK, (0, -1), (-5, -1)), [-1])
        self.assertEqual(letters(MARK, (-5, 1), (0, 1)), [])
        self.assertEqual(letters(MARK, (0, 1), (-5, 1)), [])

    def test_over_the_mark_itself_is_not_below_it(self):
        self.assertEqual(letters(MARK, (-5, 0), (5, 0)), [])
        self.assertEqual(letters(MARK, (5, -3), (-5, 3)), [])
        self.assertEqual(letters(MARK, (-5, -3), (0, 0)), [])
        self.assertEqual(letters(MARK, (0, 0), (-5, -3)), [])

    def test_straight_up_and_down(self):
        for x in (-1, 0, 1):
            self.assertEqual(letters(MARK, (x, -9), (x, -1)), [])
            self.assertEqual(letters(MARK, (x, -1), (x, -9)), [])
        for x in (-1, 1):
            self.assertEqual(letters(MARK, (x, -9), (x, 9)), [])

    def test_to_the_same_place(self):
        for x in (-1, 0, 1):
            self.assertEqual(letters(MARK, (x, -1), (x, -1)), [])

    def test_one_side_alone(self):
        self.assertEqual(letters(MARK, (-5, -1), (-1, -1)), [])
        self.assertEqual(letters(MARK, (1, -1), (5, -1)), [])
        self.assertEqual(letters(MARK, (-1, -1), (-5, -1)), [])

    def test_several_marks_by_their_x(self):
        marks = [(30, 0), (10, 0), (40, 0), (20, 0)]
        self.assertEqual(letters(marks, (0, -1), (50, -1)), [2, 4, 1, 3])
        self.assertEqual(letters(marks, (50, -1), (0, -1)), [-3, -1, -4, -2])
        self.assertEqual(letters(marks, (10, -1), (39, -1)), [4, 1])
        self.assertEqual(letters(marks, (0, -50), (50, 25)), [2, 4, 1])

    def test_below_some_and_above_others(self):
        marks = [(30, 9), (10, -9), (20, 9)]
        self.assertEqual(letters(marks, (0, 0), (50, 0)), [3, 1])
        self.assertEqual(letters(marks, (50, 0), (0, 0)), [-1, -3])

    def test_marks_of_the_same_x(self):
        marks = [(10, 5), (10, 9), (10, 1)]
        self.assertEqual(letters(marks, (0, 0), (20, 0)), [1, 2, 3])
        self.assertEqual(letters(marks, (20, 0), (0, 0)), [-3, -2, -1])
        self.assertEqual(letters(marks, (0, 7), (20, 7)), [2])
        self.assertEqual(letters(marks, (0, 3), (20, 3)), [1, 2])
        self.assertEqual(letters(marks, (20, 3), (0, 3)), [-2, -1])
        self.assertEqual(letters(marks, (0, 10), (20, 10)), [])

    def test_numbers_are_those_of_the_race(self):
        marks = [(k * 7 % 32, 0) for k in range(32)]
        east = [marks.index((x, 0)) + 1 for x in range(32)]
        self.assertEqual(letters(marks, (-1, -1), (32, -1)), east)
        self.assertEqual(letters(marks, (32, -1), (-1, -1)), [-letter for letter in reversed(east)])


class TestStrings(unittest.TestCase):
    TWO = [(0, 0), (10, 0)]

    def test_there_and_back_in_one_x(self):
        self.assertEqual(string(MARK, (-5, -1), (5, -1), (-5, -1)), [])
        self.assertEqual(string(MARK, (5, -1), (-5, -3), (5, -2)), [])

    def test_round_the_mark(self):
        against_the_clock = [(-5, -5), (5, -5), (5, 5), (-5, 5)]
        self.assertEqual(string(MARK, *against_the_clock), [1])
        self.assertEqual(string(MARK, *against_the_clock * 3), [1, 1, 1])
        self.assertEqual(string(MARK, *reversed(against_the_clock)), [-1])

    def test_taken_out_within_a_step_and_the_next(self):
        self.assertEqual(string(self.TWO, (-5, -1), (20, -1), (5, -1)), [1])
        self.assertEqual(string(self.TWO, (-5, -1), (20, -1), (-5, -1)), [])

    def test_taken_out_again_and_again_across_steps(self):
        there = [(-5, -1), (5, -1), (5, 1), (20, 1), (20, -1), (5, -1), (5, 1), (-5, 1)]
        self.assertEqual(string(self.TWO, *there), [1, -2])
        self.assertEqual(string(self.TWO, *there, *reversed(there)), [])
        self.assertEqual(string(self.TWO, *there, *there[:0:-1]), [1])

    def test_what_is_taken_out_brings_others_together(self):
        way = [(-5, -1), (5, -1), (20, -1), (20, -2), (5, -2), (5, -3), (-5, -3)]
        self.assertEqual(string(self.TWO, *way), [])

    def test_only_the_other_sign_is_taken_out(self):
        round_both = [(-5, -1), (5, -1), (5, 1), (-5, 1), (-5, -1), (20, -1)]
        self.assertEqual(string(self.TWO, *round_both), [1, 1, 2])

    def test_the_order_counts(self):
        one_first = [(5, 5), (-5, 5), (-5, -1), (5, -1), (20, -1), (20, 5), (5, 5)]
        two_first = [(5, 5), (5, -1), (20, -1), (20, 5), (-5, 5), (-5, -1), (5, -1), (5, 5)]
        self.assertEqual(string(self.TWO, *one_first), [1, 2])
        self.assertEqual(string(self.TWO, *two_first), [2, 1])

    def test_more_places_on_the_same_straights(self):
        for first in (-7, 0, 3):
            for last in (-7, 0, 3):
                whole = string(MARK, (first, -1), (last, -1))
                for between in range(min(first, last), max(first, last) + 1):
                    self.assertEqual(string(MARK, (first, -1), (between, -1), (last, -1)), whole)


class TestLettersInFares(unittest.TestCase):
    """The finish in the place of the string: who finishes has the course's."""

    # The mark stands between the lines; east and west of it are two strings.
    MARKS = [(5, 50)]
    WEST, EAST = [(-20, 50)], [(30, 50)]

    def how(self, course, *between):
        return fare_of((5, -1), (5, 1), *between, (5, 99), (5, 101), marks=self.MARKS, course=course)[1]

    def test_west_or_east_of_the_mark(self):
        self.assertEqual(self.how(self.WEST, (-20, 50)), 0)
        self.assertEqual(self.how(self.WEST, (30, 50)), 2)
        self.assertEqual(self.how(self.EAST, (30, 50)), 0)
        self.assertEqual(self.how(self.EAST, (-20, 50)), 2)

    def test_round_it_once_more(self):
        once_more = [(30, 50), (5, 70), (-20, 50), (5, 30), (30, 50)]
        self.assertEqual(self.how(self.EAST, *once_more), 2)
        self.assertEqual(self.how(self.EAST + once_more, (30, 50)), 2)
        self.assertEqual(self.how(self.EAST + once_more, *once_more), 0)

    def test_round_it_and_back(self):
        back = [(30, 50), (5, 70), (-20, 50), (5, 70), (30, 50)]
        self.assertEqual(self.how(self.EAST, *back), 0)

    def test_an_end_below_the_mark(self):
        self.assertEqual(self.how(self.EAST, (5, 20), (30, 50)), 0)
        self.assertEqual(self.how(self.WEST, (5, 20), (-20, 50)), 0)
        self.assertEqual(self.how(self.WEST, (5, 20), (5, 49), (5, 20), (-20, 50)), 0)
        self.assertEqual(self.how(self.EAST, (5, 20), (5, 49), (5, 20), (30, 50)), 0)
        self.assertEqual(self.how(self.EAST, (5, 20), (-20, 50)), 2)


if __name__ == "__main__":
    unittest.main()
