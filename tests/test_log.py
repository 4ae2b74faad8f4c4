"""A log's text: the lines boat, wind, at; each reason with the fault's line; the edges."""

import unittest

from tests.calls import (
    CANNOT_STAND, CLASHES, GOOD_LOG, NOT_FORMED, TOO_MUCH, asked, fault, in_calls, lines, read_log)

HEAD = lines("boat a", "wind 1 0")
PAIR_HEAD = lines("boat a", "boat b", "wind 1 0")


def boats(count):
    return lines(*["boat b%d" % k for k in range(count)])


def moment(count):
    """A line at with four numbers for each of count boats."""
    return lines("at" + " 0 0 0 1" * count)


def last_answer(text):
    return asked(*in_calls(text))[-1]


class TestGood(unittest.TestCase):
    def test_logs(self):
        for text in (GOOD_LOG, "", lines("boat a"), boats(3), HEAD, HEAD + moment(1), PAIR_HEAD + moment(2)):
            with self.subTest(text=text):
                self.assertEqual(read_log(text), [0])

    def test_every_beginning_of_whole_lines_is_a_log(self):
        rows = GOOD_LOG.splitlines()
        for count in range(len(rows)):
            self.assertEqual(read_log(lines(*rows[:count])), [0])

    def test_winds_one_behind_another(self):
        self.assertEqual(read_log(HEAD + lines("wind 0 1", "wind 1 0", "at 0 0 0 1", "wind 1 1", "wind 1 0")), [0])


class TestCannotStand(unittest.TestCase):
    def test_boat_behind_a_wind(self):
        self.assertEqual(read_log(HEAD + lines("boat b")), fault(2, CANNOT_STAND))

    def test_boat_behind_a_moment(self):
        self.assertEqual(read_log(HEAD + moment(1) + lines("boat b")), fault(3, CANNOT_STAND))

    def test_wind_before_any_boat(self):
        self.assertEqual(read_log(lines("wind 1 0")), fault(0, CANNOT_STAND))

    def test_moment_before_any_wind(self):
        self.assertEqual(read_log(lines("boat a") + moment(1)), fault(1, CANNOT_STAND))

    def test_moment_before_any_boat(self):
        self.assertEqual(read_log(moment(1)), fault(0, CANNOT_STAND))

    def test_moment_with_too_few_or_too_many_boats(self):
        for count in range(1, 65):
            with self.subTest(count=count):
                self.assertEqual(read_log(PAIR_HEAD + moment(count)), [0] if count == 2 else fault(3, CANNOT_STAND))


class TestClashes(unittest.TestCase):
    def test_boat_told_twice(self):
        self.assertEqual(read_log(lines("boat a", "boat a")), fault(1, CLASHES))
        self.assertEqual(read_log(lines("boat a", "boat b", "boat c", "boat a")), fault(3, CLASHES))
        self.assertEqual(read_log(lines("boat a", "boat aa", "boat 0a", "boat a0")), [0])

    def test_wind_of_nothing(self):
        self.assertEqual(read_log(lines("boat a", "wind 0 0")), fault(1, CLASHES))
        self.assertEqual(read_log(HEAD + lines("wind 0 0")), fault(2, CLASHES))
        self.assertEqual(read_log(lines("boat a", "wind 0 1", "wind 1 0")), [0])

    def test_wind_as_it_is_already(self):
        self.assertEqual(read_log(HEAD + lines("wind 1 0")), fault(2, CLASHES))
        self.assertEqual(read_log(HEAD + moment(1) + lines("wind 1 0")), fault(3, CLASHES))
        self.assertEqual(read_log(HEAD + lines("wind 2 0", "wind 2 0")), fault(3, CLASHES))

    def test_wind_that_differs(self):
        for row in ("wind 2 0", "wind -1 0", "wind 0 1", "wind 1 1"):
            self.assertEqual(read_log(HEAD + lines(row)), [0])

    def test_bow_and_stern_one_place(self):
        self.assertEqual(read_log(HEAD + lines("at 3 4 3 4")), fault(2, CLASHES))
        self.assertEqual(read_log(HEAD + lines("at 0 0 0 0")), fault(2, CLASHES))
        self.assertEqual(read_log(HEAD + lines("at 3 4 3 5", "at 3 4 3 4")), fault(3, CLASHES))
        self.assertEqual(read_log(PAIR_HEAD + lines("at 3 4 3 5 7 8 7 8")), fault(3, CLASHES))
        self.assertEqual(read_log(PAIR_HEAD + lines("at 7 8 7 8 3 4 3 5")), fault(3, CLASHES))

    def test_bow_and_stern_that_nearly_are_one_place(self):
        self.assertEqual(read_log(HEAD + lines("at 3 4 4 3", "at 3 4 3 3", "at 3 4 2 4")), [0])

    def test_two_boats_may_be_at_one_place(self):
        self.assertEqual(read_log(PAIR_HEAD + lines("at 3 4 3 5 3 4 3 5")), [0])

    def test_heading_turned_by_a_half(self):
        turns = [((0, 1), (0, -1)), ((1, 0), (-1, 0)), ((2, 3), (-2, -3)), ((2, 3), (-4, -6)), ((4, -6), (-2, 3)),
                 ((2000000, 1000000), (-2, -1))]
        for u, v in turns:
            with self.subTest(u=u, v=v):
                self.assertEqual(turned(u, v), fault(3, CLASHES))

    def test_heading_turned_by_nearly_a_half(self):
        turns = [((0, 1), (1, -1)), ((1, 0), (-1000000, 1)), ((1, 0), (-1000000, -1)), ((2, 3), (-2, -4)),
                 ((1000000, 999999), (-999999, -999998)), ((2000000, 1999999), (-1999999, -1999998))]
        for u, v in turns:
            with self.subTest(u=u, v=v):
                self.assertEqual(turned(u, v), [0])

    def test_heading_turned_by_nothing_or_a_quarter(self):
        for u, v in [((0, 1), (0, 1)), ((0, 1), (0, 9)), ((2, 3), (4, 6)), ((0, 1), (1, 0)), ((0, 1), (-1, 0)),
                     ((2, 3), (3, -2)), ((2, 3), (-3, 2))]:
            with self.subTest(u=u, v=v):
                self.assertEqual(turned(u, v), [0])

    def test_heading_is_held_against_the_moment_before_alone(self):
        self.assertEqual(read_log(HEAD + lines("at 0 1 0 0", "at 1 0 0 0", "at 0 -1 0 0")), [0])
        rows = lines("at 0 1 0 0", "at 1 0 0 0", "at 0 -1 0 0", "at 0 1 0 0")
        self.assertEqual(read_log(HEAD + rows), fault(5, CLASHES))

    def test_heading_is_held_against_the_moment_before_over_a_wind(self):
        self.assertEqual(read_log(HEAD + lines("at 0 1 0 0", "wind 0 1", "at 0 -1 0 0")), fault(4, CLASHES))

    def test_each_boat_is_held_against_herself(self):
        self.assertEqual(read_log(PAIR_HEAD + lines("at 0 1 0 0 0 0 0 1", "at 0 1 0 0 0 0 0 1")), [0])
        self.assertEqual(read_log(PAIR_HEAD + lines("at 0 1 0 0 0 1 0 0", "at 0 1 0 0 0 0 0 1")), fault(4, CLASHES))
        self.assertEqual(read_log(PAIR_HEAD + lines("at 0 1 0 0 0 1 0 0", "at 0 0 0 1 0 1 0 0")), fault(4, CLASHES))

    def test_the_heading_not_the_way_is_asked(self):
        self.assertEqual(read_log(HEAD + lines("at 0 1 0 0", "at 0 9 0 8", "at 0 5 0 4")), [0])


def turned(u, v):
    """What is answered of a log in which a boat's heading is u, and then v."""
    rows = []
    for x, y in (u, v):
        stern = (-(x // 2), -(y // 2))
        rows.append("at %d %d %d %d" % (stern[0] + x, stern[1] + y, stern[0], stern[1]))
    return read_log(HEAD + lines(*rows))


class TestTooMuch(unittest.TestCase):
    def test_boats(self):
        self.assertEqual(read_log(boats(64)), [0])
        self.assertEqual(read_log(boats(65)), fault(64, TOO_MUCH))
        self.assertEqual(read_log(boats(66)), fault(64, TOO_MUCH))

    def test_moments(self):
        text = HEAD + moment(1) * 4096
        self.assertEqual(last_answer(text), [0])
        self.assertEqual(last_answer(text + moment(1)), fault(4098, TOO_MUCH))

    def test_winds(self):
        text = lines("boat a") + lines("wind 1 0", "wind 0 1") * 2048
        self.assertEqual(last_answer(text), [0])
        self.assertEqual(last_answer(text + lines("wind 1 0")), fault(4097, TOO_MUCH))

    def test_winds_and_moments_are_counted_apart(self):
        text = HEAD + (moment(1) + lines("wind 0 1") + moment(1) + lines("wind 1 0")) * 1500
        self.assertEqual(last_answer(text), [0])

    def test_numbers_of_a_moment(self):
        self.assertEqual(read_log(boats(64) + lines("wind 1 0") + moment(64)), [0])
        self.assertEqual(read_log(boats(64) + lines("wind 1 0") + moment(65)), fault(65, NOT_FORMED))
        self.assertEqual(read_log(boats(64) + lines("wind 1 0") + moment(63)), fault(65, CANNOT_STAND))
        for count in range(1, 261):
            formed = count % 4 == 0 and count <= 256
            with self.subTest(count=count):
                told = read_log(boats(64) + lines("at" + " 7" * count))
                self.assertEqual(told, fault(64, CANNOT_STAND if formed else NOT_FORMED))


class TestSeveralReasons(unittest.TestCase):
    def test_not_formed_is_told_first(self):
        self.assertEqual(read_log(HEAD + lines("boat A")), fault(2, NOT_FORMED))
        self.assertEqual(read_log(lines("wind 0 00")), fault(0, NOT_FORMED))
        self.assertEqual(read_log(lines("wind 1048577 0")), fault(0, NOT_FORMED))
        self.assertEqual(read_log(lines("at 1 1 1 1 1")), fault(0, NOT_FORMED))
        self.assertEqual(read_log(boats(64) + "boat b0"), fault(64, NOT_FORMED))
        self.assertEqual(read_log(HEAD + "boat b"), fault(2, NOT_FORMED))

    def test_cannot_stand_before_clashes(self):
        self.assertEqual(read_log(HEAD + lines("boat a")), fault(2, CANNOT_STAND))
        self.assertEqual(read_log(lines("wind 0 0")), fault(0, CANNOT_STAND))
        self.assertEqual(read_log(lines("boat a", "at 1 1 1 1")), fault(1, CANNOT_STAND))
        self.assertEqual(read_log(PAIR_HEAD + lines("at 1 1 1 1")), fault(3, CANNOT_STAND))
        self.assertEqual(read_log(HEAD + moment(1) + lines("at 0 1 0 0 0 1 0 0")), fault(3, CANNOT_STAND))

    def test_cannot_stand_before_too_much(self):
        self.assertEqual(read_log(boats(64) + lines("wind 1 0", "boat c")), fault(65, CANNOT_STAND))
        self.assertEqual(last_answer(HEAD + moment(1) * 4096 + moment(2)), fault(4098, CANNOT_STAND))

    def test_clashes_before_too_much(self):
        self.assertEqual(read_log(boats(64) + lines("boat b63")), fault(64, CLASHES))
        winds = lines("boat a") + lines("wind 1 0", "wind 0 1") * 2048
        self.assertEqual(last_answer(winds + lines("wind 0 1")), fault(4097, CLASHES))
        self.assertEqual(last_answer(winds + lines("wind 0 0")), fault(4097, CLASHES))
        moments = HEAD + moment(1) * 4096
        self.assertEqual(last_answer(moments + lines("at 5 5 5 5")), fault(4098, CLASHES))
        self.assertEqual(last_answer(moments + lines("at 0 1 0 0")), fault(4098, CLASHES))

    def test_the_first_line_with_a_fault_is_told(self):
        self.assertEqual(read_log(lines("boat a", "boat a", "boat B", "wind 0 0")), fault(1, CLASHES))
        self.assertEqual(read_log(HEAD + lines("boat b", "?")), fault(2, CANNOT_STAND))
        self.assertEqual(read_log(boats(65) + "?"), fault(64, TOO_MUCH))


if __name__ == "__main__":
    unittest.main()
