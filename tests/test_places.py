"""The calls place, order, before, and what they refuse. (Promise 3.)"""

import unittest

from tests.calls import GOOD_LOG, asked, log, race
from tests.sailing import ORDER, before, fare, place, race_text, sailed

AHEAD = [(5, -1), (5, 1)]
LENGTH = 8


def finishing_in(step):
    """She finishes in the step of this number, at its half."""
    track = AHEAD + [(5, 99)] * (step - 1) + [(5, 101)]
    return track + [(5, 101)] * (LENGTH - len(track))


NOT_STARTING = [(5, -1)] * LENGTH
NOT_FINISHING = AHEAD + [(5, 50)] * (LENGTH - 2)
TOUCHING = AHEAD + [(50, 50)] * (LENGTH - 2)


def all_places(tracks, **told):
    return sailed(tracks, [place(i) for i in range(len(tracks))] + [ORDER], **told)


class TestPlaces(unittest.TestCase):
    def test_one_boat(self):
        self.assertEqual(all_places([finishing_in(3)]), [[0, 1, 1], [1, 0]])

    def test_by_corrected_the_lesser_first(self):
        tracks = [finishing_in(step) for step in (4, 2, 5, 3)]
        self.assertEqual(all_places(tracks), [[0, 3, 1], [0, 1, 1], [0, 4, 1], [0, 2, 1], [4, 1, 3, 0, 2]])

    def test_not_by_elapsed(self):
        tracks = [finishing_in(2), finishing_in(4)]
        self.assertEqual(all_places(tracks, handicaps=[("b1", 2000)]), [[0, 2, 1], [0, 1, 1], [2, 1, 0]])

    def test_shared_and_the_place_behind(self):
        tracks = [finishing_in(step) for step in (3, 2, 3, 2, 4, 2)]
        self.assertEqual(all_places(tracks), [
            [0, 4, 2], [0, 1, 3], [0, 4, 2], [0, 1, 3], [0, 6, 1], [0, 1, 3], [6, 1, 3, 5, 0, 2, 4]])

    def test_all_alike(self):
        self.assertEqual(all_places([finishing_in(2)] * 5), [[0, 1, 5]] * 5 + [[5, 0, 1, 2, 3, 4]])

    def test_who_did_not_finish_counts_for_nothing(self):
        tracks = [NOT_STARTING, finishing_in(5), TOUCHING, finishing_in(2), NOT_FINISHING, finishing_in(5)]
        self.assertEqual(all_places(tracks), [[-3], [0, 2, 2], [-3], [0, 1, 1], [-3], [0, 2, 2], [3, 3, 1, 5]])

    def test_nobody_finished(self):
        self.assertEqual(all_places([NOT_STARTING, TOUCHING, NOT_FINISHING]), [[-3], [-3], [-3], [0]])

    def test_no_boats(self):
        self.assertEqual(asked(race(race_text()), ORDER), [[0], [0]])
        self.assertEqual(asked(race(race_text()), log("boat a\n"), ORDER), [[0], [0], [0]])

    def test_many_boats(self):
        # 64 boats on four steps, so that sixteen share each place.
        tracks = [finishing_in(2 + i * 5 % 4) for i in range(64)]
        order = sorted(range(64), key=lambda i: (i * 5 % 4, i))
        told = all_places(tracks)
        self.assertEqual(told[:-1], [[0, 1 + 16 * (i * 5 % 4), 16] for i in range(64)])
        self.assertEqual(told[-1], [64] + order)


class TestBefore(unittest.TestCase):
    def test_less_more_alike(self):
        tracks = [finishing_in(3), finishing_in(2), finishing_in(3)]
        calls = [before(i, j) for i in range(3) for j in range(3)]
        self.assertEqual(sailed(tracks, calls), [[0], [2], [0], [1], [0], [1], [0], [2], [0]])

    def test_the_same_boat(self):
        self.assertEqual(sailed([finishing_in(3)], [before(0, 0)]), [[0]])
        self.assertEqual(sailed([NOT_FINISHING], [before(0, 0)]), [[-3]])

    def test_one_did_not_finish(self):
        for track in (NOT_STARTING, NOT_FINISHING, TOUCHING):
            calls = [before(0, 1), before(1, 0), before(1, 1), before(0, 0)]
            self.assertEqual(sailed([finishing_in(2), track], calls), [[-3], [-3], [-3], [0]])


class TestRefusals(unittest.TestCase):
    TRACKS = [finishing_in(2), NOT_FINISHING]

    def test_no_such_boat(self):
        for i in (2, 3, 64, 16383, 4294967295):
            calls = [fare(i), place(i), before(i, 0), before(0, i), before(i, i)]
            self.assertEqual(sailed(self.TRACKS, calls), [[-4]] * 5)

    def test_the_last_boat_is_there(self):
        told = sailed(self.TRACKS, [fare(1), place(1), before(1, 1)])
        self.assertEqual([answer[0] for answer in told], [0, -3, -3])

    def test_no_such_boat_comes_ahead_of_not_finished(self):
        self.assertEqual(sailed(self.TRACKS, [before(1, 2), before(2, 1)]), [[-4], [-4]])

    def test_no_race_comes_ahead_of_all(self):
        calls = [fare(0), fare(9), place(0), place(1), place(9), ORDER, before(0, 0), before(0, 1), before(0, 9),
                 before(9, 0), before(9, 9)]
        self.assertEqual(asked(*calls), [[-5]] * len(calls))
        self.assertEqual(asked(log(GOOD_LOG), *calls)[1:], [[-5]] * len(calls))
        self.assertEqual(asked(log(GOOD_LOG), race("?\n"), *calls)[2:], [[-5]] * len(calls))

    def test_a_race_and_no_boats(self):
        calls = [fare(0), place(0), before(0, 0)]
        self.assertEqual(asked(race(race_text()), *calls)[1:], [[-4]] * 3)

    def test_a_boat_without_a_moment(self):
        told = asked(race(race_text()), log("boat a\n"), fare(0), place(0), before(0, 0), fare(1))[2:]
        self.assertEqual(told, [[0, 1, 0, -1, -1, 0, 1, 0, 1], [-3], [-3], [-4]])

    def test_a_refusal_changes_nothing(self):
        whole = [fare(0), fare(1), place(0), ORDER, before(0, 0)]
        told = sailed(self.TRACKS, whole + [fare(2), place(1), before(0, 1), before(7, 7)] + whole)
        self.assertEqual(told[:5], told[-5:])


if __name__ == "__main__":
    unittest.main()
