"""A race's text: the lines start, finish, mark, course, handicap; each reason with the fault's line; the edges."""

import unittest

from tests.calls import CANNOT_STAND, CLASHES, GOOD_RACE, NOT_FORMED, TOO_MUCH, fault, lines, read_race

START = "start 0 0 100 0 5"
FINISH = "finish 0 500 100 500"
MARK = "mark 50 250"
COURSE = "course 200 250"
HEAD = lines(START, FINISH)
MIDDLE = HEAD + lines(MARK)
BODY = MIDDLE + lines(COURSE)
ROWS = [START, FINISH, MARK, COURSE, "handicap a 900"]


def marks(count):
    return lines(*["mark %d 250" % (1000 + k) for k in range(count)])


def handicaps(count):
    return lines(*["handicap h%d 900" % k for k in range(count)])


def mark_told(place, start="0 0 100 0", finish="0 500 100 500"):
    """What is answered of a race with a mark at that place, its course far from everything."""
    text = lines("start %s 5" % start, "finish " + finish, "mark %d %d" % place, "course -9000 -1 -9000 8888")
    return read_race(text)


def course_told(places, *marks_told):
    """What is answered of a race from (0, 0) to (0, 500) by those places; the lines run to the west."""
    rows = ["start 0 0 -9 0 5", "finish 0 500 -9 500"]
    rows += ["mark %d %d" % mark for mark in marks_told]
    rows.append("course " + " ".join("%d %d" % place for place in places))
    return read_race(lines(*rows))


class TestGood(unittest.TestCase):
    def test_races(self):
        for text in (GOOD_RACE, BODY, BODY + handicaps(1), HEAD + marks(5) + lines(COURSE) + handicaps(5)):
            with self.subTest(text=text):
                self.assertEqual(read_race(text), [0])

    def test_start_and_finish_may_be_one_line(self):
        self.assertEqual(read_race(lines(START, "finish 0 0 100 0", MARK, COURSE)), [0])

    def test_a_course_may_stay_where_it_is(self):
        self.assertEqual(read_race(MIDDLE + lines("course 0 0 0 0 0 500")), [0])


class TestFormed(unittest.TestCase):
    def test_places_of_a_line_differ(self):
        self.assertEqual(read_race(lines("start 3 4 3 4 5")), fault(0, NOT_FORMED))
        self.assertEqual(read_race(lines(START, "finish 3 4 3 4")), fault(1, NOT_FORMED))
        self.assertEqual(read_race(lines("start 3 4 4 3 5", "finish 3 4 3 5", MARK, COURSE)), [0])
        self.assertEqual(read_race(lines("start 3 4 3 5 5", "finish 3 4 4 4", MARK, COURSE)), [0])

    def test_start_moment(self):
        for moment in (0, 1, 4094, 4095):
            self.assertEqual(read_race(BODY.replace("0 5\n", "0 %d\n" % moment, 1)), [0])
        for moment in (-1, 4096, 4097, 1048576, -1048576):
            self.assertEqual(read_race(BODY.replace("0 5\n", "0 %d\n" % moment, 1)), fault(0, NOT_FORMED))

    def test_course_places(self):
        for count in range(1, 65):
            self.assertEqual(read_race(MIDDLE + lines("course" + " 200 250" * count)), [0])
        for count in (0, 65, 66, 128):
            self.assertEqual(read_race(MIDDLE + lines("course" + " 200 250" * count)), fault(3, NOT_FORMED))
        for count in range(1, 66):
            self.assertEqual(read_race(MIDDLE + lines("course" + " 200 250" * count + " 7")), fault(3, NOT_FORMED))

    def test_handicap_numbers(self):
        for number in (1, 2, 999, 1000, 9998, 9999):
            self.assertEqual(read_race(BODY + lines("handicap a %d" % number)), [0])
        for number in (0, -1, -1000, 10000, 10001, 1048576):
            self.assertEqual(read_race(BODY + lines("handicap a %d" % number)), fault(4, NOT_FORMED))


class TestCannotStand(unittest.TestCase):
    def test_each_line_at_each_stand(self):
        stands = {"": "start", START: "finish", FINISH: "mark", MARK: "mark course", COURSE: "handicap",
                  "handicap a 900": "handicap"}
        for count, last in enumerate(stands):
            head = ROWS[:count]
            for row in [START, FINISH, "mark 700 700", COURSE, "handicap b 900"]:
                if row.split()[0] not in stands[last].split():
                    with self.subTest(behind=last, row=row):
                        self.assertEqual(read_race(lines(*head, row)), fault(count, CANNOT_STAND))

    def test_text_that_ends_before_its_course(self):
        self.assertEqual(read_race(""), fault(0, CANNOT_STAND))
        self.assertEqual(read_race(lines(START)), fault(1, CANNOT_STAND))
        self.assertEqual(read_race(HEAD), fault(2, CANNOT_STAND))
        self.assertEqual(read_race(MIDDLE), fault(3, CANNOT_STAND))
        self.assertEqual(read_race(HEAD + marks(32)), fault(34, CANNOT_STAND))

    def test_course_without_a_mark(self):
        self.assertEqual(read_race(HEAD + lines(COURSE)), fault(2, CANNOT_STAND))


class TestMarkClashes(unittest.TestCase):
    def test_at_a_marks_place(self):
        self.assertEqual(read_race(MIDDLE + lines(MARK)), fault(3, CLASHES))
        self.assertEqual(read_race(MIDDLE + lines("mark 1 250", "mark 2 250", MARK)), fault(5, CLASHES))
        self.assertEqual(read_race(MIDDLE + lines("mark 50 251", "mark 51 250", "mark 250 50", COURSE)), [0])

    def test_on_the_start_or_the_finish(self):
        for place in [(0, 0), (100, 0), (50, 0), (1, 0), (99, 0), (0, 500), (100, 500), (50, 500)]:
            with self.subTest(place=place):
                self.assertEqual(mark_told(place), fault(2, CLASHES))

    def test_on_the_line_but_not_between(self):
        for place in [(-1, 0), (101, 0), (-1, 500), (101, 500), (1000000, 0), (-1000000, 500)]:
            with self.subTest(place=place):
                self.assertEqual(mark_told(place), [0])

    def test_beside_the_line(self):
        for place in [(50, 1), (50, -1), (0, 1), (100, -1), (50, 499), (0, 501)]:
            with self.subTest(place=place):
                self.assertEqual(mark_told(place), [0])

    def test_lines_that_slant_or_stand_upright(self):
        for start in ("0 0 6 9", "6 9 0 0"):
            for place in [(0, 0), (2, 3), (4, 6), (6, 9)]:
                self.assertEqual(mark_told(place, start=start), fault(2, CLASHES))
            for place in [(-2, -3), (8, 12), (3, 4), (3, 5), (2, 4), (6, 0), (0, 9)]:
                self.assertEqual(mark_told(place, start=start), [0])
        for finish in ("7 0 7 -20", "7 -20 7 0"):
            for place in [(7, 0), (7, -1), (7, -20)]:
                self.assertEqual(mark_told(place, start="50 50 60 60", finish=finish), fault(2, CLASHES))
            for place in [(7, 1), (7, -21), (6, -10), (8, -10)]:
                self.assertEqual(mark_told(place, start="50 50 60 60", finish=finish), [0])

    def test_nearly_on_a_long_line(self):
        start = "-1048576 -1048575 1048576 1048575"
        self.assertEqual(mark_told((0, 0), start=start, finish="5 -5 6 -5"), fault(2, CLASHES))
        self.assertEqual(mark_told((1048575, 1048574), start=start, finish="5 -5 6 -5"), [0])
        self.assertEqual(mark_told((1, 1), start=start, finish="5 -5 6 -5"), [0])

    def test_start_and_finish_do_not_clash_with_one_another(self):
        self.assertEqual(read_race(lines(START, "finish 50 0 60 0", MARK, COURSE)), [0])


class TestCourseClashes(unittest.TestCase):
    def test_each_step(self):
        places = [(100, 100), (200, 100), (200, 300), (100, 300)]
        self.assertEqual(course_told(places, (150, 200)), [0])
        for mark in [(50, 50), (150, 100), (200, 200), (150, 300), (50, 400)]:
            with self.subTest(mark=mark):
                self.assertEqual(course_told(places, mark), fault(3, CLASHES))

    def test_ends_of_the_steps(self):
        places = [(100, 100), (200, 300)]
        for mark in places:
            self.assertEqual(course_told(places, mark), fault(3, CLASHES))

    def test_beside_and_beyond_the_steps(self):
        places = [(100, 100), (200, 300)]
        for mark in [(101, 101), (99, 100), (101, 103), (201, 302), (201, 300), (-1, -1), (-2, 501)]:
            with self.subTest(mark=mark):
                self.assertEqual(course_told(places, mark), [0])

    def test_only_the_first_places_of_the_lines_belong_to_the_way(self):
        text = lines("start 0 0 100 0 5", "finish 0 500 100 500", "mark %d %d", "course 200 250")
        self.assertEqual(read_race(text % (100, 125)), fault(3, CLASHES))
        self.assertEqual(read_race(text % (100, 375)), fault(3, CLASHES))
        self.assertEqual(read_race(text % (150, 125)), [0])
        self.assertEqual(read_race(text % (150, 375)), [0])

    def test_any_of_the_marks(self):
        for k in range(3):
            told = [(700, 1), (800, 2), (900, 3)]
            told[k] = (50, 50)
            self.assertEqual(course_told([(100, 100)], *told), fault(5, CLASHES))

    def test_a_step_to_the_same_place(self):
        self.assertEqual(course_told([(100, 100), (100, 100)], (100, 100)), fault(3, CLASHES))
        self.assertEqual(course_told([(100, 100), (100, 100)], (101, 100)), [0])
        self.assertEqual(course_told([(0, 0), (0, 0)], (-100, 100)), [0])
        self.assertEqual(course_told([(0, 500)], (-100, 100)), [0])

    def test_the_same_straight_there_and_back(self):
        self.assertEqual(course_told([(100, 0), (0, 0)], (60, 0)), fault(3, CLASHES))
        self.assertEqual(course_told([(100, 0), (0, 0)], (101, 0)), [0])


class TestHandicapClashes(unittest.TestCase):
    def test_a_name_told_already(self):
        self.assertEqual(read_race(BODY + lines("handicap a 900", "handicap a 900")), fault(5, CLASHES))
        self.assertEqual(read_race(BODY + lines("handicap a 900", "handicap b 900", "handicap a 7")), fault(6, CLASHES))
        self.assertEqual(read_race(BODY + lines("handicap a 900", "handicap aa 900", "handicap a0 900")), [0])


class TestTooMuch(unittest.TestCase):
    def test_marks(self):
        self.assertEqual(read_race(HEAD + marks(32) + lines(COURSE)), [0])
        self.assertEqual(read_race(HEAD + marks(33) + lines(COURSE)), fault(34, TOO_MUCH))
        self.assertEqual(read_race(HEAD + marks(33)), fault(34, TOO_MUCH))

    def test_handicaps(self):
        self.assertEqual(read_race(BODY + handicaps(64)), [0])
        self.assertEqual(read_race(BODY + handicaps(65)), fault(68, TOO_MUCH))
        self.assertEqual(read_race(BODY + handicaps(66)), fault(68, TOO_MUCH))


class TestSeveralReasons(unittest.TestCase):
    def test_not_formed_is_told_first(self):
        self.assertEqual(read_race(lines("finish 3 4 3 4")), fault(0, NOT_FORMED))
        self.assertEqual(read_race(BODY + lines("start 0 0 100 0 4096")), fault(4, NOT_FORMED))
        self.assertEqual(read_race(lines("course")), fault(0, NOT_FORMED))
        self.assertEqual(read_race(lines("mark 0")), fault(0, NOT_FORMED))
        self.assertEqual(read_race(MIDDLE + lines("course 50 250 1")), fault(3, NOT_FORMED))
        self.assertEqual(read_race(HEAD + lines("handicap a 0")), fault(2, NOT_FORMED))
        self.assertEqual(read_race(BODY + handicaps(64) + lines("handicap h0 0")), fault(68, NOT_FORMED))
        self.assertEqual(read_race(HEAD + marks(32) + "mark 1000 250"), fault(34, NOT_FORMED))

    def test_cannot_stand_before_clashes(self):
        self.assertEqual(read_race(BODY + lines(MARK)), fault(4, CANNOT_STAND))
        self.assertEqual(read_race(lines(START, "mark 0 0")), fault(1, CANNOT_STAND))
        self.assertEqual(read_race(BODY + lines("course 50 250")), fault(4, CANNOT_STAND))

    def test_cannot_stand_before_too_much(self):
        self.assertEqual(read_race(HEAD + marks(32) + lines(COURSE, "mark 7 7")), fault(35, CANNOT_STAND))

    def test_clashes_before_too_much(self):
        self.assertEqual(read_race(HEAD + marks(32) + lines("mark 1000 250")), fault(34, CLASHES))
        self.assertEqual(read_race(HEAD + marks(32) + lines("mark 0 0")), fault(34, CLASHES))
        self.assertEqual(read_race(BODY + handicaps(64) + lines("handicap h63 1")), fault(68, CLASHES))

    def test_the_first_line_with_a_fault_is_told(self):
        self.assertEqual(read_race(MIDDLE + lines(MARK, "?")), fault(3, CLASHES))
        self.assertEqual(read_race(lines(START, START, "?")), fault(1, CANNOT_STAND))
        self.assertEqual(read_race(HEAD + marks(33) + "?"), fault(34, TOO_MUCH))
        self.assertEqual(read_race(HEAD + lines("?")), fault(2, NOT_FORMED))


if __name__ == "__main__":
    unittest.main()
