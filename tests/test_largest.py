"""The largest races and logs: the answers must come there too."""

import random
import unittest

from tests import fare_oracle
from tests.calls import SIZES, asked, in_calls, lines, log, more, race
from tests.sailing import (
    FARTHEST, ORDER, before, fare, finished, log_text, not_finished, place, race_text, rows_at, touched)

END = FARTHEST
# A row of marks from west to east; a loop goes from (40, 40) against the clock round all of them.
MARKS = [(2 - 2 * k, 50) for k in range(32)]
LOOP = [(40, 60), (-80, 60), (-80, 40), (40, 40)]
LOOP_BACK = [(-80, 40), (-80, 60), (40, 60), (40, 40)]
LINES = {"start": ((0, 10), (10, 10)), "finish": ((0, 70), (10, 70))}
AHEAD = [(5, 9), (5, 11), (40, 40)]
BEHIND = [(40, 60), (5, 69), (5, 71)]


def asked_of_log(told, text, *calls):
    answers = asked(race(race_text(**told)), *in_calls(text), *calls)
    ahead = len(answers) - len(calls)
    if answers[:ahead] != [[0]] * ahead:
        raise ValueError(answers[:ahead])
    return answers[ahead:]


class TestThousandsOfMoments(unittest.TestCase):
    def fare_of(self, told, track):
        text = log_text(track)
        self.assertLessEqual(len(text), 65536)
        return asked_of_log(told, text, fare(0), SIZES)

    def test_as_many_moments_as_may_be(self):
        told = {"finish": ((0, 8), (9, 8))}
        self.assertEqual(self.fare_of(told, [(5, -1), (5, 1)] + [(5, 5)] * 4094)[0], not_finished(0))
        track = [(5, -1), (5, 1)] + [(5, 5)] * 4092 + [(5, 7), (5, 9)]
        answers = self.fare_of(told, track)
        self.assertEqual(answers, [finished(0, 4094, (1, 2), (8189, 2)), [0, 1, 1, 0, 1, 4096]])

    def test_start_at_the_last_moment_but_one(self):
        track = [(5, -1)] * 4095 + [(5, 1)]
        self.assertEqual(self.fare_of({"moment": 4094}, track)[0], not_finished(4094))
        self.assertEqual(self.fare_of({"moment": 4095}, track)[0], [0, 1, 1, -1, -1, 0, 1, 0, 1])

    def test_round_the_marks_hundreds_of_times_and_back(self):
        told = dict(LINES, marks=MARKS, course=[(40, 40)] + LOOP * 15 + [(40, 60)])
        there = AHEAD + LOOP * 200
        back = LOOP_BACK * 185
        self.assertEqual(self.fare_of(told, there + BEHIND)[0], not_finished(0))
        self.assertEqual(self.fare_of(told, there + back + BEHIND)[0], finished(0, 1544, (1, 2), (3089, 2)))
        self.assertEqual(self.fare_of(told, there + back + LOOP + BEHIND)[0], not_finished(0))
        self.assertEqual(self.fare_of(told, there + back + LOOP_BACK + BEHIND)[0], not_finished(0))

    def test_over_the_finish_line_in_each_loop(self):
        told = dict(LINES, marks=MARKS, course=[(40, 40)] + LOOP * 15 + [(40, 60)])
        track = AHEAD + (BEHIND + LOOP[1:]) * 40
        # By none, by one, by two loops ..: by fifteen it's the course's string.
        self.assertEqual(self.fare_of(told, track)[0], finished(0, 3 + 6 * 15 + 1, (1, 2), (189, 2)))

    def test_over_the_finish_line_by_the_longest_strings(self):
        told = dict(LINES, marks=MARKS, course=[(-90, 50)])
        track = [(5, 9), (5, 11)] + [(40, 40), (5, 71), (-80, 40)] * 1300
        self.assertEqual(self.fare_of(told, track)[0], not_finished(0))
        self.assertEqual(self.fare_of(told, track + [(-60, 50)])[0], touched(0))


class TestTheRangeSEnds(unittest.TestCase):
    def test_lines_from_end_to_end(self):
        told = {"start": ((-END, -END + 1), (END, -END + 1)), "finish": ((-END, END - 1), (END, END - 1)),
                "marks": [(0, 0)], "course": [(-END, 0)]}
        calls = [fare(0), fare(1), fare(2), place(0), place(1), ORDER, before(0, 1)]
        west = [(-END, -END), (-END, END)]
        east = [(END, -END), (END, END)]
        over_it = [(-END, -END), (END, END)]
        answers = asked(race(race_text(**told)), log(log_text(west, east, over_it)), *calls)[2:]
        part = [2 * END - 1, 2 * END]
        done = [0, 0, 0, 0, 0] + part + part
        self.assertEqual(answers, [done, done, [0, 3, 0, 0, -1, 0, 1, 0, 1], [0, 1, 2], [0, 1, 2], [2, 0, 1], [0]])

    def test_slanting_from_corner_to_corner(self):
        told = {"start": ((-END, -END), (END, END)), "finish": ((END, END), (-END, -END)), "marks": [(0, 1)],
                "course": [(-END, END)]}
        tracks = [[(END, -END), (-END, END), (END, -END), (-END, END)],
                  [(END, END), (-END + 1, END), (-END, -END + 1), (END - 1, -END)]]
        for track in tracks:
            found = fare_oracle.fare(dict(told, moment=0, handicaps=[]), "b0", track)
            answer = asked(race(race_text(**told)), log(log_text(track)), fare(0))[-1]
            self.assertEqual(answer, fare_oracle.fare_answer(found))

    def test_many_boats_from_end_to_end(self):
        chance = random.Random(9)
        told = {"start": ((-END, 0), (END, 1)), "finish": ((END, -1), (-END, 0)), "moment": 1, "handicaps": []}
        told["marks"] = [(END - k * 65536, chance.choice([-1, 1]) * (END - k)) for k in range(30)]
        told["marks"] += [(-200001, 300001), (200001, -300001)]
        tracks = [self.up_and_down(chance) for i in range(64)]
        seen = []
        # One after another the way of a boat behind her start is the course.
        for track in tracks[:3]:
            own = dict(told, course=track[5:7] * 32)
            if not fare_oracle.touches(told["marks"], fare_oracle.own_way(own)):
                seen += self.check(own, tracks)
        self.assertGreater(seen.count(0), 10, seen)
        self.assertGreater(seen.count(2), 10, seen)

    def up_and_down(self, chance):
        ends = [-END, END, -END + 1, END - 1, 0, 1]
        track = [(chance.choice(ends), chance.choice(ends)) for k in range(4)]
        for k in range(4):
            track += [(chance.randint(-END, END), -END), (chance.randint(-END, END), END)]
        return track

    def check(self, told, tracks):
        boats = range(len(tracks))
        fares = [fare_oracle.fare(told, "b%d" % i, tracks[i]) for i in boats]
        calls = [fare(i) for i in boats] + [place(i) for i in boats] + [ORDER]
        expected = [fare_oracle.fare_answer(found) for found in fares]
        expected += [fare_oracle.place_answer(fares, i) for i in boats] + [fare_oracle.order_answer(fares)]
        self.assertEqual(asked_of_log(told, log_text(*tracks), *calls), expected)
        return [found[0] for found in fares]


class TestAllTheLargestAtOnce(unittest.TestCase):
    def test_64_boats_32_marks_64_places_64_handicaps(self):
        told = dict(LINES, marks=MARKS, course=[(40, 40)] + LOOP + [(40, 60)] * 59, moment=2,
                    handicaps=[("b%d" % i, 1000 + i // 2) for i in range(64)])
        tracks = [[(5, 9)] * 2 + AHEAD + LOOP + [(40, 60), (5, 68), (5, 71), (5, 71), (5, 71)]] * 64
        text = log_text(*tracks)
        calls = [fare(63), place(0), place(1), place(63), ORDER, before(0, 1), before(0, 63), before(63, 0), SIZES]
        answers = asked_of_log(told, text, *calls)
        # 10 moments less 2, and 2/3, times 1,000, by 1,031; who has the greater handicap has less.
        order = [i for pair in range(31, -1, -1) for i in (2 * pair, 2 * pair + 1)]
        self.assertEqual(answers, [
            [0, 0, 0, 2, 10, 2, 3, 26000, 3093], [0, 63, 2], [0, 63, 2], [0, 1, 2], [64] + order, [0], [2], [1],
            [0, 32, 64, 64, 64, 14]])

    def test_a_log_as_long_as_may_be(self):
        names = ["b%d" % i for i in range(32)]
        head = lines(*["boat " + name for name in names], "wind 0 -5")
        row = lines(*rows_at([[(i % 10, 2)] for i in range(32)]))
        start = lines(*rows_at([[(i % 10, -1)] for i in range(32)]))
        rows = (65536 - len(head) - len(start)) // len(row)
        text = head + start + row * rows
        told = {"marks": [(40 + k, 50) for k in range(32)], "course": [(0, 50)] * 64}
        answers = asked_of_log(told, text, ORDER, *[fare(i) for i in range(32)])
        self.assertEqual(answers, [[0]] + [not_finished(0)] * 32)
        # A line more would be too long: the fares stay.
        answers = asked_of_log(told, text, more(row), ORDER, fare(31), SIZES)
        self.assertEqual(answers, [[-2], [0], not_finished(0), [0, 32, 64, 0, 32, rows + 1]])

    def test_as_many_calls_as_may_be(self):
        track = [(5, -1), (5, 1), (5, 99), (5, 101)]
        calls = [race(race_text()), log(log_text(track))] + [fare(0), place(0), ORDER, before(0, 0)] * 99
        answers = asked(*calls)
        self.assertEqual(answers[2:], [finished(0, 2, (1, 2), (5, 2)), [0, 1, 1], [1, 0], [0]] * 99)


if __name__ == "__main__":
    unittest.main()
