"""Elapsed and corrected."""

import unittest

from tests.sailing import before, fare, fare_of, place, sailed

AHEAD = [(5, -1), (5, 1)]


def corrected(*track, **told):
    answer = fare_of(*track, **told)
    if answer[:2] != [0, 0]:
        raise ValueError(answer)
    return tuple(answer[7:])


class TestElapsed(unittest.TestCase):
    def test_from_the_race_s_start_not_hers(self):
        for waits in range(4):
            track = [(5, -1)] * waits + AHEAD + [(5, 98), (5, 101)]
            self.assertEqual(corrected(*track), (3 * waits + 8, 3))

    def test_less_the_start_s_moment(self):
        for moment in range(4):
            track = [(5, -1)] * 3 + AHEAD + [(5, 98), (5, 101)]
            self.assertEqual(corrected(*track, moment=moment), (17 - 3 * moment, 3))

    def test_nothing(self):
        # She is on both lines at the start's moment, and goes over both.
        told = {"start": ((0, 0), (10, 0)), "finish": ((0, -10), (0, 10)), "marks": [(50, 50)], "course": [(0, -5)]}
        self.assertEqual(fare_of((0, 0), (-1, 1), **told), [0, 0, 0, 0, 0, 0, 1, 0, 1])
        self.assertEqual(fare_of((0, -9), (0, -9), (0, 0), (-7, 7), moment=2, handicaps=[("b0", 9999)], **told),
                         [0, 0, 0, 2, 2, 0, 1, 0, 1])

    def test_a_whole_number_of_moments(self):
        self.assertEqual(corrected(*AHEAD, (5, 100), (5, 101)), (2, 1))
        self.assertEqual(corrected(*AHEAD, (5, 90), (5, 100), (5, 101)), (3, 1))


class TestHandicaps(unittest.TestCase):
    TRACK = AHEAD + [(5, 99), (5, 101)]

    def by(self, *handicaps):
        return corrected(*self.TRACK, handicaps=handicaps)

    def test_none_is_told(self):
        self.assertEqual(self.by(), (5, 2))

    def test_told(self):
        self.assertEqual(self.by(("b0", 1000)), (5, 2))
        self.assertEqual(self.by(("b0", 500)), (5, 1))
        self.assertEqual(self.by(("b0", 2000)), (5, 4))
        self.assertEqual(self.by(("b0", 1)), (2500, 1))
        self.assertEqual(self.by(("b0", 999)), (2500, 999))
        self.assertEqual(self.by(("b0", 9999)), (2500, 9999))
        self.assertEqual(self.by(("b0", 1250)), (2, 1))

    def test_of_a_name_that_is_no_boat(self):
        self.assertEqual(self.by(("b1", 500)), (5, 2))
        self.assertEqual(self.by(("b", 500), ("b00", 400), ("0", 300), ("b0", 900)), (25, 9))
        answers = sailed([self.TRACK], [fare(0), place(0), [6], [3]], handicaps=[("nobody", 500)])
        self.assertEqual(answers, [[0, 0, 0, 0, 2, 1, 2, 5, 2], [0, 1, 1], [1, 0], [0, 1, 1, 1, 1, 4]])

    def test_by_name_not_by_number(self):
        names = ["carl", "anna", "bert"]
        told = sailed([self.TRACK] * 3, [fare(i) for i in range(3)], names=names,
                      handicaps=[("anna", 500), ("bert", 2000), ("carl", 1250)])
        self.assertEqual([answer[7:] for answer in told], [[2, 1], [5, 1], [5, 4]])

    def test_a_handicap_says_nothing_of_who_did_not_finish(self):
        self.assertEqual(fare_of(*self.TRACK[:-1], handicaps=[("b0", 7)]), [0, 2, 0, 0, -1, 0, 1, 0, 1])

    def test_the_fraction_of_the_step_is_not_corrected(self):
        self.assertEqual(fare_of(*self.TRACK, handicaps=[("b0", 500)])[4:], [2, 1, 2, 5, 1])

    def test_lowest_terms(self):
        # 2 and 96/97 (from 96 to the right to 1 to the left), times 1,000, by 970.
        track = AHEAD + [(5, 4), (5, 101)]
        self.assertEqual(corrected(*track), (290, 97))
        self.assertEqual(corrected(*track, handicaps=[("b0", 290)]), (1000, 97))
        self.assertEqual(corrected(*track, handicaps=[("b0", 970)]), (29000, 9409))


class TestVeryNear(unittest.TestCase):
    def two(self, first, second, waits=0, **told):
        ahead = [(5, -1)] * waits + AHEAD
        return sailed([ahead + first, ahead + second], [before(0, 1), before(1, 0), place(0), place(1), [6]], **told)

    FIRST_LESS = [[1], [2], [0, 1, 1], [0, 2, 1], [2, 0, 1]]
    SECOND_LESS = [[2], [1], [0, 2, 1], [0, 1, 1], [2, 1, 0]]
    ALIKE = [[0], [0], [0, 1, 2], [0, 1, 2], [2, 0, 1]]

    def test_next_to_one_another(self):
        # n/(2n + 1) and (n + 1)/(2n + 3) differ by 1 divided by both denominators.
        one = [(5, 100 - 500000), (5, 100 + 500001)]
        other = [(5, 100 - 500001), (5, 100 + 500002)]
        for waits in (0, 1000):
            self.assertEqual(self.two(one, other, waits), self.FIRST_LESS)
            self.assertEqual(self.two(other, one, waits), self.SECOND_LESS)
            self.assertEqual(self.two(one, one, waits), self.ALIKE)

    def test_nearer_than_floats_can_tell(self):
        # By this line the crosses are n = 100000500005 and n + 1, n + 1 and n + 2.
        line = ((-500000, 100), (500000, 101))
        one = [(5, -99900), (-6, 100101)]
        other = [(6, -99900), (-7, 100101)]
        self.assertEqual(fare_of(*AHEAD, *one, finish=line)[4:7], [2, 100000500005, 200001000011])
        self.assertEqual(fare_of(*AHEAD, *other, finish=line)[4:7], [2, 100000500006, 200001000013])
        self.assertEqual(100000500005 / 200001000011, 100000500006 / 200001000013)
        for waits in (0, 7):
            self.assertEqual(self.two(one, other, waits, finish=line), self.FIRST_LESS)
            self.assertEqual(self.two(other, one, waits, finish=line), self.SECOND_LESS)
            self.assertEqual(self.two(other, other, waits, finish=line), self.ALIKE)

    def test_alike_by_other_steps(self):
        self.assertEqual(self.two([(5, 99), (5, 101)], [(5, 90), (5, 110)]), self.ALIKE)

    def test_alike_by_handicap(self):
        # 2 1/2 by 1,000 and 3 3/4 by 1,500.
        one = [(5, 99), (5, 101), (5, 101), (5, 101)]
        other = [(5, 90), (5, 97), (5, 101), (5, 101)]
        self.assertEqual(self.two(one, other, handicaps=[("b1", 1500)]), self.ALIKE)
        self.assertEqual(self.two(one, other, handicaps=[("b1", 1501)]), self.SECOND_LESS)
        self.assertEqual(self.two(one, other, handicaps=[("b1", 1499)]), self.FIRST_LESS)
        self.assertEqual(self.two(one, other), self.FIRST_LESS)


if __name__ == "__main__":
    unittest.main()
