"""Her way, and the step in which she finishes. (Promise 2.)"""

import unittest

from tests.calls import asked, log, race
from tests.sailing import fare, fare_of, finished, log_text, not_finished, race_text


class TestHerWay(unittest.TestCase):
    def test_in_the_start_s_own_step(self):
        # Her way is the two first places alone.
        self.assertEqual(fare_of((5, -1), (5, 101)), finished(0, 0, (101, 102), (101, 102)))
        self.assertEqual(fare_of((5, 0), (5, 200)), finished(0, 0, (1, 2), (1, 2)))

    def test_in_the_start_s_own_step_by_another_string(self):
        # The course goes round the mark to the north; the two first places alone pass below it.
        told = {"finish": ((20, 0), (20, -9)), "marks": [(15, 3)]}
        self.assertEqual(fare_of((5, -1), (5, 1), course=[(15, 9)], **told), not_finished(0))
        self.assertEqual(fare_of((5, -1), (25, 1), course=[(15, 9)], **told)[1], 1)
        # The step goes over both lines: over the start line at (9, 0), over the finish line at (20, -1).
        lines = {"start": ((0, 4), (9, -5)), "finish": ((20, 0), (20, -9)), "marks": [(15, 3)]}
        self.assertEqual(fare_of((1, -1), (41, -1), course=[(15, 2)], **lines), finished(0, 0, (19, 40), (19, 40)))
        self.assertEqual(fare_of((1, -1), (41, -1), course=[(15, 9)], **lines), not_finished(0))

    def test_in_the_start_s_own_step_her_bow_is_no_part_of_it(self):
        # Her bow ends to the east of the mark's line, which would be a letter.
        told = fare_of((5, -1), (5, 101), marks=[(3, 200)])
        self.assertEqual(told, finished(0, 0, (101, 102), (101, 102)))

    def test_in_the_step_behind_the_start_s(self):
        self.assertEqual(fare_of((5, -1), (5, 1), (5, 199)), finished(0, 1, (1, 2), (3, 2)))
        # Her bow between the two first places decides on which side of the mark she went.
        for course, how in (([(-20, 50)], 0), ([(20, 50)], 2)):
            self.assertEqual(fare_of((5, -1), (-10, 60), (5, 101), marks=[(-2, 50)], course=course,
                                     start=((-20, 0), (10, 0)), finish=((-20, 100), (10, 100)))[1], how)

    def test_later(self):
        for waits in range(5):
            told = fare_of((5, -1), (5, 1), *[(5, 50)] * waits, (5, 99), (5, 101))
            self.assertEqual(told, finished(0, waits + 2, (1, 2), (2 * waits + 5, 2)))

    def test_her_bow_behind_the_finishing_step_is_no_part_of_it(self):
        # That bow lies beyond the mark's line; the way goes from the bow before it to the line's first place.
        told = fare_of((5, -1), (5, 1), (5, 99), (9, 101), marks=[(7, 300)])
        self.assertEqual(told, finished(0, 2, (1, 2), (5, 2)))

    def test_her_bow_before_the_start_is_no_part_of_it(self):
        told = fare_of((9, -1), (5, 1), (5, 99), (5, 101), marks=[(7, 300)])
        self.assertEqual(told, finished(0, 2, (1, 2), (5, 2)))

    def test_the_log_ends_before_the_finish(self):
        self.assertEqual(fare_of((5, -1), (5, 1)), not_finished(0))
        self.assertEqual(fare_of((5, -1), (5, 1), (5, 99)), not_finished(0))
        self.assertEqual(fare_of((5, -1), (5, 1), (5, 99), (5, 100)), not_finished(0))


class TestFirstAndLastStraight(unittest.TestCase):
    # From (0, 0) to (4, 8) the straight runs over (2, 4), though no step of hers does.
    def by_first_bow(self, y, *behind):
        return fare_of((4, -1), (4, y), *behind, marks=[(2, 4)])

    def test_first_straight_above_over_and_below_the_mark(self):
        self.assertEqual(self.by_first_bow(9, (4, 99), (4, 101)), finished(0, 2, (1, 2), (5, 2)))
        self.assertEqual(self.by_first_bow(8, (4, 99), (4, 101)), not_finished(0))
        self.assertEqual(self.by_first_bow(7, (4, 99), (4, 101)), not_finished(0))

    def test_first_straight_over_a_mark_is_so_in_every_step_behind(self):
        self.assertEqual(self.by_first_bow(8, (4, 99), (4, 101), (4, 99), (4, 101)), not_finished(0))

    def test_first_straight_just_ends_at_a_mark(self):
        # That is her bow's own step, too.
        self.assertEqual(fare_of((4, -1), (2, 4), (4, 99), (4, 101), marks=[(2, 4)])[1], 3)

    def test_first_straight_over_a_mark_and_the_start_s_own_step(self):
        # In the start's own step that straight isn't there.
        told = fare_of((4, -1), (4, 200), marks=[(2, 100), (2, 50)], course=[(-5, 50)], finish=((0, 120), (10, 120)))
        self.assertEqual(told, finished(0, 0, (121, 201), (121, 201)))

    # The line's first place is (0, 100): from (4, 96) the straight runs over (2, 98).
    def by_last_bow(self, y, *behind):
        return fare_of((4, -1), (4, 1), (4, y), (4, 101), *behind, marks=[(2, 98)], course=[(5, 99)])

    def test_last_straight_above_over_and_below_the_mark(self):
        self.assertEqual(self.by_last_bow(97), finished(0, 2, (3, 4), (11, 4)))
        self.assertEqual(self.by_last_bow(96), not_finished(0))
        self.assertEqual(self.by_last_bow(95), not_finished(0))

    def test_last_straight_over_a_mark_and_later_not(self):
        self.assertEqual(self.by_last_bow(96, (4, 99), (4, 101)), finished(0, 4, (1, 2), (9, 2)))
        self.assertEqual(self.by_last_bow(96, (4, 96), (4, 101), (4, 98), (4, 101)), finished(0, 6, (2, 3), (20, 3)))

    def test_the_two_first_places_over_a_mark(self):
        told = {"marks": [(0, 50)], "course": [(5, 50)]}
        self.assertEqual(fare_of((5, -1), (5, 101), **told), not_finished(0))
        self.assertEqual(fare_of((5, -1), (5, 101), (5, 99), (5, 101), **told), finished(0, 2, (1, 2), (5, 2)))


class TestFirstCrossingByTheString(unittest.TestCase):
    MARKS = [(5, 50)]
    WEST, EAST = (-20, 50), (30, 50)
    OVER = [(5, 99), (5, 101)]

    def fare(self, *track):
        return fare_of((5, -1), (5, 1), *track, marks=self.MARKS, course=[self.EAST])

    def test_by_another_string_then_by_the_right_one(self):
        self.assertEqual(self.fare(self.WEST, *self.OVER), not_finished(0))
        # Back down by the west and up by the east.
        back = [self.WEST, (5, 1), self.EAST]
        self.assertEqual(self.fare(self.WEST, *self.OVER, *back, *self.OVER), finished(0, 8, (1, 2), (17, 2)))

    def test_round_to_the_other_side_without_going_back(self):
        # From the west on round the mark: that is another string again.
        self.assertEqual(self.fare(self.WEST, *self.OVER, self.EAST, (5, 1), self.WEST, *self.OVER), not_finished(0))
        self.assertEqual(self.fare(self.WEST, *self.OVER, self.EAST, (5, 1), self.EAST, *self.OVER), not_finished(0))

    def test_the_first_of_several_is_told(self):
        again = [self.EAST] + self.OVER * 3
        self.assertEqual(self.fare(*again), finished(0, 3, (1, 2), (7, 2)))

    def test_behind_her_finish_nothing_counts(self):
        self.assertEqual(self.fare(self.EAST, *self.OVER, self.WEST, (5, -1), (5, 1), self.WEST, *self.OVER),
                         finished(0, 3, (1, 2), (7, 2)))

    def test_back_over_the_finish_line_and_over_it_again(self):
        # The first crossing is beside the line.
        self.assertEqual(self.fare(self.EAST, (30, 101), (9, 101), (9, 98), (9, 101)),
                         finished(0, 5, (2, 3), (17, 3)))

    def test_two_marks_in_the_wrong_order(self):
        told = {"marks": [(30, 50), (70, 50)], "finish": ((40, 100), (50, 100)), "start": ((40, 0), (50, 0))}
        # Against the clock round the west mark and round the east mark, each one back to the middle.
        west = [(45, 70), (20, 70), (20, 30), (45, 30)]
        east = [(45, 30), (80, 30), (80, 70), (45, 70)]
        for first, second in ((west, east), (east, west)):
            way = first + second
            calls = []
            for track in (west + east, east + west):
                whole = [(45, -1), (45, 1)] + track + [(45, 99), (45, 101)]
                calls.append(asked(race(race_text(course=way, **told)), log(log_text(whole)), fare(0))[-1][1])
            self.assertEqual(calls, [0, 2] if first == west else [2, 0])

    def test_nobody_finishes_who_left_out_a_part_of_the_course(self):
        round_it = [(30, 30), (30, 70), (-20, 70), (-20, 30), (30, 30), (30, 75)]
        told = {"marks": self.MARKS, "course": round_it}
        ahead, behind = [(5, -1), (5, 1)], [(5, 99), (5, 101)]
        self.assertEqual(fare_of(*ahead, *round_it, *behind, **told), finished(0, 8, (1, 2), (17, 2)))
        self.assertEqual(fare_of(*ahead, *reversed(round_it), *behind, **told), not_finished(0))
        for k in range(1, len(round_it) - 1):
            self.assertEqual(fare_of(*ahead, *round_it[:k], *round_it[-1:], *behind, **told), not_finished(0), k)
        self.assertEqual(fare_of(*ahead, *round_it, *round_it, *behind, **told), not_finished(0))


if __name__ == "__main__":
    unittest.main()
