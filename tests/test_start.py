"""Too early, and the step at which a boat starts."""

import unittest

from tests.calls import asked, log, more, race
from tests.sailing import fare, fare_of, finished, log_text, not_finished, not_started, race_text

RIGHT, ON, LEFT = (5, -1), (5, 0), (5, 1)


class TestTooEarly(unittest.TestCase):
    def test_side_at_the_start_s_moment(self):
        self.assertEqual(fare_of(LEFT), not_started(early=1))
        self.assertEqual(fare_of(ON), not_started())
        self.assertEqual(fare_of(RIGHT), not_started())

    def test_the_side_is_the_whole_line_s(self):
        for x in (-500, 0, 10, 500):
            self.assertEqual(fare_of((x, 1)), not_started(early=1))
            self.assertEqual(fare_of((x, 0)), not_started())
            self.assertEqual(fare_of((x, -1)), not_started())

    def test_only_that_moment(self):
        for at in range(4):
            track = [RIGHT] * 4
            track[at] = LEFT
            self.assertEqual(fare_of(*track, moment=2)[2], 1 if at == 2 else 0, at)
            track = [LEFT] * 4
            track[at] = RIGHT
            self.assertEqual(fare_of(*track, moment=2)[2], 0 if at == 2 else 1, at)

    def test_start_s_moment_not_in_the_log(self):
        for moment, early in ((0, 1), (1, 1), (2, 1), (3, 0), (4, 0), (4095, 0)):
            self.assertEqual(fare_of(LEFT, LEFT, LEFT, moment=moment), not_started(early), moment)

    def test_a_log_without_a_moment(self):
        self.assertEqual(fare_of(), not_started())

    def test_it_is_the_bow_that_counts(self):
        text = "boat a\nwind 0 1\nat 5 %d 5 %d\n"
        for bow, stern, early in ((1, -3, 1), (-1, 3, 0), (0, 3, 0)):
            told = asked(race(race_text()), log(text % (bow, stern)), fare(0))[-1]
            self.assertEqual(told, not_started(early))

    def test_early_is_told_however_she_fares(self):
        self.assertEqual(fare_of(LEFT, RIGHT, LEFT), not_finished(1, early=1))
        self.assertEqual(fare_of(LEFT, RIGHT, LEFT, (5, 99), (5, 101)), finished(1, 3, (1, 2), (7, 2), early=1))
        told = fare_of(LEFT, RIGHT, LEFT, (5, 20), marks=[(5, 10)], course=[(9, 50)])
        self.assertEqual(told, [0, 3, 1, 1, -1, 0, 1, 0, 1])

    def test_each_boat_for_herself(self):
        calls = [fare(0), fare(1), fare(2)]
        told = asked(race(race_text()), log(log_text([LEFT], [ON], [LEFT])), *calls)[2:]
        self.assertEqual([answer[2] for answer in told], [1, 0, 1])


class TestStart(unittest.TestCase):
    def test_the_first_step_over_the_line(self):
        for waits in range(4):
            self.assertEqual(fare_of(*[RIGHT] * waits, RIGHT, LEFT), not_finished(waits))

    def test_none(self):
        for track in ([], [RIGHT], [LEFT], [RIGHT, RIGHT], [RIGHT, ON], [(11, -1), (11, 1)]):
            early = 1 if track == [LEFT] else 0
            self.assertEqual(fare_of(*track), not_started(early))

    def test_a_step_before_the_start_s_moment_does_not_count(self):
        self.assertEqual(fare_of(RIGHT, LEFT, LEFT, moment=1), not_started(early=1))
        self.assertEqual(fare_of(RIGHT, LEFT, LEFT, moment=0), not_finished(0))
        self.assertEqual(fare_of(RIGHT, LEFT, RIGHT, LEFT, moment=1), not_finished(2, early=1))
        self.assertEqual(fare_of(RIGHT, LEFT, RIGHT, LEFT, moment=2), not_finished(2))
        self.assertEqual(fare_of(RIGHT, LEFT, RIGHT, LEFT, moment=3), not_started(early=1))

    def test_the_start_s_own_moment_counts(self):
        self.assertEqual(fare_of(LEFT, LEFT, ON, LEFT, moment=2), not_finished(2))

    def test_start_s_moment_just_the_last_or_behind_it(self):
        self.assertEqual(fare_of(RIGHT, LEFT, moment=0), not_finished(0))
        self.assertEqual(fare_of(RIGHT, LEFT, moment=1), not_started(early=1))
        self.assertEqual(fare_of(RIGHT, LEFT, moment=2), not_started())
        self.assertEqual(fare_of(RIGHT, LEFT, moment=4095), not_started())

    def test_a_boat_that_starts_twice(self):
        self.assertEqual(fare_of(RIGHT, RIGHT, LEFT, RIGHT, LEFT), not_finished(1))
        self.assertEqual(fare_of(RIGHT, LEFT, RIGHT, LEFT, (5, 99), (5, 101)), finished(0, 4, (1, 2), (9, 2)))

    def test_over_the_finish_line_before_the_start_is_nothing(self):
        self.assertEqual(fare_of((5, 99), (5, 101), RIGHT), not_started(early=1))
        told = fare_of((5, 99), (5, 101), RIGHT, LEFT, (5, 99), (5, 102))
        self.assertEqual(told, finished(2, 4, (1, 3), (13, 3), early=1))

    def test_what_she_did_before_her_start_is_no_part_of_her_way(self):
        # Round the mark before the start; the course goes straight.
        round_it = [(60, 40), (60, 60), (40, 60), (40, 40)]
        told = fare_of(*round_it, RIGHT, LEFT, (5, 99), (5, 101))
        self.assertEqual(told, finished(4, 6, (1, 2), (13, 2), early=1))

    def test_the_first_moments_come_by_more(self):
        told = asked(race(race_text(moment=1)), log("boat a\nwind 0 1\n"), fare(0), more("at 5 1 5 0\n"), fare(0),
                     more("at 5 -1 5 -2\n"), fare(0), more("at 5 1 5 0\n"), fare(0))
        self.assertEqual(told[2::2], [not_started(), not_started(), not_started(), not_finished(1)])


if __name__ == "__main__":
    unittest.main()
