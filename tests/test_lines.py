"""Over a line: which steps go over it, and at which fraction of the step."""

import unittest

from racelogs.crossing import when_over
from racelogs.ratios import is_less, lowest
from tests.sailing import FINISH, START, fare_of, finished, not_finished, not_started

# By the line from (0, 0) to (10, 0): north is on the left.
OVER = [
    ("from the right", (5, -1), (5, 1)),
    ("from far on the right", (3, -70), (8, 20)),
    ("from on the line", (5, 0), (5, 1)),
    ("from on the line, slanting off beyond its end", (5, 0), (99, 1)),
    ("from its first place", (0, 0), (3, 3)),
    ("from its first place, backwards", (0, 0), (-5, 1)),
    ("from its second place", (10, 0), (3, 3)),
    ("from its second place, forwards", (10, 0), (20, 1)),
    ("meets it at its first place", (0, -1), (0, 1)),
    ("meets it at its first place, slanting", (-2, -2), (1, 1)),
    ("meets it at its second place", (10, -1), (10, 1)),
    ("meets it at its second place, slanting", (9, -1), (12, 2)),
    ("from beyond one end to beyond the other", (-5, -1), (15, 1)),
]
NOT_OVER = [
    ("from the left to the left", (5, 1), (5, 2)),
    ("from the left to the right", (5, 1), (5, -1)),
    ("from the left to on the line", (5, 1), (5, 0)),
    ("from the right to on the line", (5, -1), (5, 0)),
    ("from the right to the right", (5, -2), (5, -1)),
    ("from on the line to the right", (5, 0), (5, -1)),
    ("from on the line to on the line", (4, 0), (5, 0)),
    ("to the same place, on the right", (5, -1), (5, -1)),
    ("to the same place, on the line", (5, 0), (5, 0)),
    ("to the same place, on the left", (5, 1), (5, 1)),
    ("before its first place", (-1, -1), (-1, 1)),
    ("before its first place by a third", (-3, -2), (1, 1)),
    ("behind its second place", (11, -1), (11, 1)),
    ("behind its second place by a half", (9, -1), (12, 1)),
    ("from on the line before its first place", (-1, 0), (5, 5)),
    ("from on the line behind its second place", (11, 0), (5, 5)),
]


def turned(place, quarters):
    for k in range(quarters):
        place = (-place[1], place[0])
    return place


def leaning(place):
    """Neither along an axis: a turn and a stretch, so sides and fractions stay."""
    return (3 * place[0] - 2 * place[1] + 7, 2 * place[0] + 3 * place[1] - 4)


def far_away(place):
    return (place[0] * 10000 - 900000, place[1] * 10000 + 300000)


CHANGES = [
    lambda place: place, lambda place: turned(place, 1), lambda place: turned(place, 2), lambda place: turned(place, 3),
    leaning, far_away]


class TestOverALine(unittest.TestCase):
    def answers_of_start(self, change, c, d):
        line = (change((0, 0)), change((10, 0)))
        # The mark and the finish are out of the way of every step above.
        finish = (change((0, 40)), change((10, 40)))
        return fare_of(change(c), change(d), start=line, finish=finish, marks=[change((50, 60))],
                       course=[change((5, 30))])

    def test_start_line(self):
        for change in CHANGES:
            for why, c, d in OVER:
                with self.subTest(why, c=change(c)):
                    self.assertEqual(self.answers_of_start(change, c, d), not_finished(0))
            for why, c, d in NOT_OVER:
                early = 1 if c[1] > 0 else 0
                with self.subTest(why, c=change(c)):
                    self.assertEqual(self.answers_of_start(change, c, d), not_started(early))

    def test_finish_line(self):
        for why, c, d in OVER + NOT_OVER:
            # She comes to c from the left, round the line's end, so that only the last step may be over it.
            told = fare_of((5, -3), (5, 1), (-40, 90), (-40, 140), (c[0], c[1] + 100), (d[0], d[1] + 100))
            with self.subTest(why, c=c):
                self.assertEqual(told[1:5], [0, 0, 0, 4] if (why, c, d) in OVER else [2, 0, 0, -1])

    def test_the_other_way_round_the_sides_are_the_other_ones(self):
        for why, c, d in OVER + NOT_OVER:
            with self.subTest(why, c=c):
                is_over = when_over(((10, 0), (0, 0)), (c[0], -c[1]), (d[0], -d[1])) is not None
                self.assertEqual(is_over, (why, c, d) in OVER)

    def test_back_over_the_line_is_not_over_it(self):
        self.assertIsNone(when_over(START, (5, 1), (5, -1)))
        self.assertEqual(when_over((START[1], START[0]), (5, 1), (5, -1)), (1, 2))


class TestWhen(unittest.TestCase):
    FRACTIONS = [
        ((5, 100), (5, 101), (0, 1)),
        ((5, 100), (5, 170), (0, 1)),
        ((5, 99), (5, 101), (1, 2)),
        ((5, 97), (5, 103), (1, 2)),
        ((5, 98), (5, 101), (2, 3)),
        ((5, 96), (5, 102), (2, 3)),
        ((5, 99), (5, 102), (1, 3)),
        ((5, 88), (5, 118), (2, 5)),
        ((0, 90), (9, 101), (10, 11)),
        ((9, 1), (2, 104), (99, 103)),
    ]

    def test_fractions_in_lowest_terms(self):
        for c, d, part in self.FRACTIONS:
            corrected = lowest(2 * part[1] + part[0], part[1])
            with self.subTest(c=c, d=d):
                self.assertEqual(fare_of((5, -1), (5, 1), c, d), finished(0, 2, part, corrected))

    def test_the_line_s_own_length_says_nothing(self):
        for length in (7, 8, 10, 1000):
            told = fare_of((5, -1), (5, 1), (5, 96), (5, 102), finish=((0, 100), (length, 100)))
            self.assertEqual(told, finished(0, 2, (2, 3), (8, 3)))

    def test_a_slanting_line(self):
        # By the line from (0, 100) to (10, 105) the crosses are -60 and 45.
        told = fare_of((5, -1), (5, 1), (4, 96), (7, 108), finish=((0, 100), (10, 105)))
        self.assertEqual(told, finished(0, 2, (4, 7), (18, 7)))

    def test_lowest(self):
        self.assertEqual(lowest(0, 1), (0, 1))
        self.assertEqual(lowest(0, 77), (0, 1))
        self.assertEqual(lowest(77, 77), (1, 1))
        self.assertEqual(lowest(12, 18), (2, 3))
        self.assertEqual(lowest(18, 12), (3, 2))
        self.assertEqual(lowest(2 ** 60 * 3, 2 ** 61), (3, 2))

    def test_less(self):
        self.assertTrue(is_less((1, 3), (1, 2)))
        self.assertFalse(is_less((1, 2), (1, 3)))
        self.assertFalse(is_less((1, 2), (1, 2)))
        self.assertTrue(is_less((10 ** 20, 10 ** 20 + 1), (10 ** 20 + 1, 10 ** 20 + 2)))


class TestFinishLineIsALineOfItsOwn(unittest.TestCase):
    def test_over_the_start_line_again_is_no_finish(self):
        self.assertEqual(fare_of((5, -1), (5, 1), (5, -1), (5, 1)), not_finished(0))

    def test_one_line_for_both(self):
        # The start's own step goes over the finish line, too.
        told = fare_of((5, -1), (5, 1), finish=START, course=[(5, 20)])
        self.assertEqual(told, finished(0, 0, (1, 2), (1, 2)))

    def test_the_same_line_the_other_way_round(self):
        told = fare_of((5, -1), (5, 2), (5, -1), finish=(FINISH[1], FINISH[0]))
        self.assertEqual(told, not_finished(0))
        told = fare_of((5, -1), (5, 120), (5, 90), finish=(FINISH[1], FINISH[0]))
        self.assertEqual(told, finished(0, 1, (2, 3), (5, 3)))


if __name__ == "__main__":
    unittest.main()
