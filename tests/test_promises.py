"""Promises 4 and 5, for many races and logs by chance."""

import random
import unittest

from tests import fare_oracle
from tests.calls import SIZES, asked, log, more, race
from tests.chances import NAMES, scaled, some_race, some_tracks, spot
from tests.sailing import ORDER, before, fare, log_text, place, race_text, sailed

HOW_MANY = 400
FINISHED, TOUCHED = 0, 3


class TestAMomentMore(unittest.TestCase):
    def fares_moment_by_moment(self, told, tracks):
        names = NAMES[:len(tracks)]
        rows = log_text(*tracks, names=names).splitlines(keepends=True)
        ahead = len(names) + 1
        calls = [race(race_text(**told)), log("".join(rows[:ahead]))]
        for row in rows[ahead:]:
            calls += [more(row)] + [fare(i) for i in range(len(names))]
        answers = asked(*calls)
        self.assertEqual(answers[:2], [[0], [0]])
        by_moment = []
        for k in range(2, len(answers), len(names) + 1):
            self.assertEqual(answers[k], [0])
            by_moment.append(answers[k + 1:k + 1 + len(names)])
        return by_moment

    def test_changes_no_fare_that_is_finished_or_touched(self):
        chance = random.Random(4)
        seen = {FINISHED: 0, TOUCHED: 0}
        for k in range(HOW_MANY):
            told = some_race(chance, 5)
            tracks = some_tracks(chance, 5, told)
            by_moment = self.fares_moment_by_moment(told, tracks)
            for earlier, later in zip(by_moment, by_moment[1:]):
                for i, answer in enumerate(earlier):
                    if answer[1] in seen:
                        seen[answer[1]] += 1
                        self.assertEqual(later[i], answer, (told, tracks, i))
            whole = sailed(tracks, [fare(i) for i in range(len(tracks))], names=NAMES[:len(tracks)], **told)
            self.assertEqual(by_moment[-1], whole)
        self.assertGreater(min(seen.values()), HOW_MANY // 4, seen)

    def test_by_hand(self):
        told = {"marks": [(5, 50)], "course": [(30, 50)]}
        finishing = [(5, -1), (5, 1), (30, 50), (5, 99), (5, 101)]
        touching = [(5, -1), (5, 1), (5, 20), (5, 50), (5, 60)]
        for behind in ([(5, 50)] * 2, [(5, -1), (5, 1)], [(5, 99), (5, 101)], [(30, 50), (5, 99)]):
            by_moment = self.fares_moment_by_moment(told, [finishing + behind, touching + behind])
            self.assertEqual([fares[0][1] for fares in by_moment], [1, 2, 2, 2, 0, 0, 0])
            self.assertEqual([fares[1][1] for fares in by_moment], [1, 2, 2, 3, 3, 3, 3])
            for fares in by_moment[5:]:
                self.assertEqual(fares, by_moment[4])


class TestACourseOfTheSameString(unittest.TestCase):
    def answers(self, told, tracks):
        boats = range(len(tracks))
        calls = [fare(i) for i in boats] + [place(i) for i in boats] + [ORDER, SIZES]
        calls += [before(i, j) for i in boats for j in boats]
        answers = sailed(tracks, calls, names=NAMES[:len(tracks)], **told)
        # How many places the course has is told by sizes; that alone may differ.
        answers[2 * len(tracks) + 1][2] = 0
        return answers

    def with_places_between(self, chance, told):
        course = []
        way = fare_oracle.own_way(told)
        for c, d in fare_oracle.steps(way):
            for part in sorted(chance.choices(range(7), k=chance.randint(0, 4))):
                course.append(tuple(c[k] + (d[k] - c[k]) * part // 6 for k in (0, 1)))
            course.append(d)
        return course[:-1]

    def test_more_places_on_the_same_straights(self):
        chance = random.Random(5)
        how_many_finished = 0
        for k in range(HOW_MANY):
            told = some_race(chance, 5)
            # Six times as large, so that the sixths of each straight are whole numbers.
            told, tracks = scaled(told, some_tracks(chance, 5, told), 6, (0, 0))
            answers = self.answers(told, tracks)
            how_many_finished += answers[2 * len(tracks)][0]
            other = dict(told, course=self.with_places_between(chance, told))
            self.assertEqual(self.answers(other, tracks), answers, (told, other, tracks))
        self.assertGreater(how_many_finished, HOW_MANY // 4)

    def another_of_the_same_string(self, chance, told):
        wanted = fare_oracle.string(told["marks"], fare_oracle.own_way(told))
        for tries in range(300):
            other = dict(told, course=[spot(chance, 8) for k in range(chance.randint(1, 4))])
            if other["course"] == told["course"]:
                continue
            way = fare_oracle.own_way(other)
            if not fare_oracle.touches(told["marks"], way) and fare_oracle.string(told["marks"], way) == wanted:
                return other
        return None

    def test_another_course_of_the_same_string(self):
        chance = random.Random(6)
        how_many = 0
        for k in range(HOW_MANY):
            told = some_race(chance, 5)
            tracks = some_tracks(chance, 5, told)
            other = self.another_of_the_same_string(chance, told)
            if other is not None:
                how_many += len(fare_oracle.own_way(told)) != len(fare_oracle.own_way(other))
                self.assertEqual(self.answers(other, tracks), self.answers(told, tracks), (told, other, tracks))
        self.assertGreater(how_many, HOW_MANY // 4)

    def test_by_hand(self):
        marks = [(5, 50), (40, 50)]
        tracks = [[(5, -1), (5, 1), middle, (5, 99), (5, 101)] for middle in [(-20, 50), (20, 50), (60, 50)]]
        for west in ([(-20, 50)], [(-10, 25), (-20, 50), (-10, 75)], [(-1, 50), (-1, 60)],
                     [(-20, 50), (5, 70), (-20, 50)], [(-20, 90), (60, 90), (60, 20), (60, 90), (-20, 90)]):
            answers = self.answers({"marks": marks, "course": west}, tracks)
            self.assertEqual([answer[1] for answer in answers[:3]], [0, 2, 2], west)
        for between in ([(20, 50)], [(20, 40), (20, 60)], [(39, 50), (6, 51), (6, 49), (6, 60)]):
            answers = self.answers({"marks": marks, "course": between}, tracks)
            self.assertEqual([answer[1] for answer in answers[:3]], [2, 0, 2], between)
        for east in ([(60, 50)], [(99, 0), (99, 99)], [(20, 0), (60, 0), (60, 60), (20, 70)]):
            answers = self.answers({"marks": marks, "course": east}, tracks)
            self.assertEqual([answer[1] for answer in answers[:3]], [2, 2, 0], east)


if __name__ == "__main__":
    unittest.main()
