"""Touching a mark."""

import unittest

from tests.sailing import fare_of, finished, not_finished, not_started, touched

# The mark stands in the middle, or where a test says; the course goes by the east.
COURSE = [(30, 50)]


def by_mark(mark, *track, **told):
    return fare_of(*track, marks=[mark], course=told.pop("course", COURSE), **told)


class TestTouch(unittest.TestCase):
    def test_in_a_later_step(self):
        for waits in range(3):
            track = [(5, -1), (5, 1)] + [(5, 40)] * waits + [(5, 60), (5, 99), (5, 101)]
            self.assertEqual(by_mark((5, 50), *track), touched(0))

    def test_in_the_start_s_own_step(self):
        self.assertEqual(by_mark((5, 50), (5, -1), (5, 60)), touched(0))
        self.assertEqual(by_mark((5, 50), (5, -1), (5, 60), (30, 99), (5, 101)), touched(0))

    def test_in_the_start_s_own_step_ahead_of_the_line(self):
        self.assertEqual(by_mark((5, -5), (5, -9), (5, 1)), touched(0))
        self.assertEqual(by_mark((5, -5), (5, -5), (5, 1)), touched(0))

    def test_at_a_step_s_end(self):
        self.assertEqual(by_mark((5, 50), (5, -1), (5, 1), (5, 50)), touched(0))
        self.assertEqual(by_mark((5, 50), (5, -1), (5, 50)), touched(0))
        self.assertEqual(by_mark((5, 50), (5, -1), (5, 1), (30, 50), (5, 50)), touched(0))

    def test_just_beside_it(self):
        for x in (4, 6):
            self.assertEqual(by_mark((x, 50), (5, -1), (5, 1), (5, 60)), not_finished(0))
        self.assertEqual(by_mark((5, 50), (5, -1), (5, 1), (5, 49)), not_finished(0))
        self.assertEqual(by_mark((5, 50), (5, -1), (5, 1), (5, 49), (4, 50)), not_finished(0))

    def test_on_the_step_s_line_but_beyond_its_ends(self):
        self.assertEqual(by_mark((5, 50), (5, -1), (5, 1), (5, 20)), not_finished(0))
        self.assertEqual(by_mark((5, -50), (5, -1), (5, 1), (5, 20)), not_finished(0))
        self.assertEqual(by_mark((50, 30), (5, -1), (5, 30), (40, 30)), not_finished(0))
        self.assertEqual(by_mark((-9, 30), (5, -1), (5, 30), (40, 30)), not_finished(0))

    def test_slanting_and_level(self):
        self.assertEqual(by_mark((11, 5), (5, -1), (5, 1), (8, 3), (14, 7)), touched(0))
        self.assertEqual(by_mark((11, 5), (5, -1), (14, 7), (14, 5), (8, 5)), touched(0))
        self.assertEqual(by_mark((11, 5), (5, -1), (5, 1), (8, 3), (14, 8)), not_finished(0))

    def test_whichever_mark_it_is(self):
        marks = [(20 * k, 50) for k in range(1, 33)]
        for x, y in marks:
            told = fare_of((5, -1), (5, 1), (x, 49), (x, 51), marks=marks, course=[(5, 60)])
            self.assertEqual(told, touched(0))

    def test_in_a_step_in_which_she_would_finish(self):
        track = [(5, -1), (5, 1), (5, 90), (5, 120)]
        for y in (91, 99, 101, 120):
            told = fare_of(*track, marks=[(5, y)], course=[(-5, 99)])
            self.assertEqual(told, touched(0), y)
        self.assertEqual(by_mark((5, 121), *track), finished(0, 2, (1, 3), (7, 3)))
        self.assertEqual(by_mark((5, 50), (5, -1), (5, 101)), touched(0))

    def test_behind_her_finish(self):
        track = [(5, -1), (5, 1), (5, 99), (5, 101), (5, 120)]
        self.assertEqual(by_mark((5, 110), *track), finished(0, 2, (1, 2), (5, 2)))
        self.assertEqual(by_mark((5, 101), *track, course=[(-9, 99)]), touched(0))
        self.assertEqual(by_mark((5, 102), *track), finished(0, 2, (1, 2), (5, 2)))

    def test_before_her_start(self):
        self.assertEqual(by_mark((5, -5), (5, -9), (5, -3), (5, 1)), not_finished(1))
        self.assertEqual(by_mark((5, -5), (5, -9), (5, -3), (5, 1), (5, 99), (5, 101)), finished(1, 3, (1, 2), (7, 2)))
        self.assertEqual(by_mark((5, -5), (5, -9), (5, -3), (5, -9)), not_started())
        # A step over the line ahead of the start's moment is no start.
        self.assertEqual(by_mark((5, 5), (5, -9), (5, 9), (5, -9), moment=1), not_started(early=1))

    def test_what_is_behind_is_not_looked_at(self):
        track = [(5, -1), (5, 1), (5, 50), (30, 60), (5, 99), (5, 101)]
        self.assertEqual(by_mark((5, 50), *track), touched(0))
        self.assertEqual(by_mark((5, 50), *track, (5, -1), (5, 1), (30, 50), (5, 99), (5, 101)), touched(0))

    def test_a_crossing_by_another_string_and_then_touched(self):
        track = [(5, -1), (5, 1), (-20, 50), (5, 99), (5, 101), (-20, 50), (5, 50)]
        self.assertEqual(by_mark((5, 50), *track[:-1]), not_finished(0))
        self.assertEqual(by_mark((5, 50), *track), touched(0))

    def test_a_step_to_the_same_place(self):
        # A step that goes nowhere touches no mark, though it has no direction of its own.
        stays = [(5, 30), (5, 30), (5, 30)]
        self.assertEqual(by_mark((5, 150), (5, -1), (5, 1), *stays, (5, 99), (5, 101)),
                         finished(0, 5, (1, 2), (11, 2)))
        self.assertEqual(by_mark((50, 30), (5, -1), (5, 1), *stays), not_finished(0))
        self.assertEqual(by_mark((5, 30), (5, -1), (5, 1), *stays), touched(0))

    def test_the_stern_touches_nothing(self):
        # The stern lies a step to the south of the bow: here it runs over the mark, the bow beside it.
        told = by_mark((5, 50), (5, -1), (5, 1), (6, 51), (5, 51), (5, 52), course=[(30, 50)])
        self.assertEqual(told, not_finished(0))


if __name__ == "__main__":
    unittest.main()
