"""The call sizes; all eight calls in one list: how they are handed in and answers are given back."""

import unittest

from racelogs.desk import UnknownCall, answers
from tests.calls import (
    CANNOT_STAND, GOOD_LOG, GOOD_LOG_SIZES, GOOD_RACE, GOOD_RACE_SIZES, NOT_FORMED, SIZES, asked, fault, lines, log,
    more, race)
from tests.sailing import ORDER, before, fare, finished, log_text, not_finished, not_started, place, race_text

OTHER_RACE = lines("start 0 0 100 0 0", "finish 0 500 100 500", "mark 50 250", "course 1 1 2 2 3 3 4 4 5 5")
GOOD_SIZES = [0] + GOOD_RACE_SIZES + GOOD_LOG_SIZES


class TestSizes(unittest.TestCase):
    def test_without_a_race(self):
        self.assertEqual(asked(SIZES), [[-5]])
        self.assertEqual(asked(log(GOOD_LOG), SIZES), [[0], [-5]])
        self.assertEqual(asked(race("?\n"), SIZES), [fault(0, NOT_FORMED), [-5]])

    def test_with_a_race(self):
        self.assertEqual(asked(race(GOOD_RACE), SIZES), [[0], [0] + GOOD_RACE_SIZES + [0, 0]])
        self.assertEqual(asked(race(GOOD_RACE), log(GOOD_LOG), SIZES)[-1], GOOD_SIZES)
        self.assertEqual(asked(log(GOOD_LOG), race(GOOD_RACE), SIZES)[-1], GOOD_SIZES)

    def test_each_of_the_five_numbers(self):
        text = lines("start 0 0 100 0 0", "finish 0 500 100 500")
        text += lines(*["mark %d 250" % k for k in range(1000, 1003)])
        text += "course" + " 7 7" * 5 + "\n"
        text += lines(*["handicap h%d 900" % k for k in range(7)])
        told = lines("boat a", "boat b", "boat c", "boat d", "wind 1 0", "wind 1 1")
        told += ("at" + " 0 0 0 1" * 4 + "\n") * 6
        self.assertEqual(asked(race(text), log(told), SIZES)[-1], [0, 3, 5, 7, 4, 6])

    def test_the_greatest(self):
        text = lines("start 0 0 100 0 0", "finish 0 500 100 500")
        text += lines(*["mark %d 250" % k for k in range(1000, 1032)])
        text += "course" + " 7 7" * 64 + "\n"
        text += lines(*["handicap h%d 900" % k for k in range(64)])
        told = lines(*["boat b%d" % k for k in range(64)])
        self.assertEqual(asked(race(text), log(told), SIZES)[-1], [0, 32, 64, 64, 64, 0])

    def test_a_refused_race_leaves_the_held_one(self):
        for text, why in (("", fault(0, CANNOT_STAND)), (OTHER_RACE + "?", fault(4, NOT_FORMED))):
            told = asked(race(GOOD_RACE), log(GOOD_LOG), race(text), SIZES)
            self.assertEqual(told[2:], [why, GOOD_SIZES])

    def test_a_refused_log_leaves_the_held_one(self):
        told = asked(race(GOOD_RACE), log(GOOD_LOG), log("boat a\nboat b\nboat c\n?"), SIZES)
        self.assertEqual(told[2:], [fault(3, NOT_FORMED), GOOD_SIZES])

    def test_a_new_race_takes_the_place_of_the_held_one(self):
        told = asked(race(GOOD_RACE), log(GOOD_LOG), race(OTHER_RACE), SIZES)
        self.assertEqual(told[-1], [0, 1, 5, 0] + GOOD_LOG_SIZES)

    def test_a_new_log_takes_the_place_of_the_held_one(self):
        told = asked(race(GOOD_RACE), log(GOOD_LOG), log(lines("boat a")), SIZES, log(""), SIZES)
        self.assertEqual(told[-3:], [[0] + GOOD_RACE_SIZES + [1, 0], [0], [0] + GOOD_RACE_SIZES + [0, 0]])


class TestAnswers(unittest.TestCase):
    def many_calls(self):
        parts = [SIZES, race(GOOD_RACE), SIZES, log(GOOD_LOG), more("at 1 2 3 4\n"), SIZES, race("\n"), log(""), SIZES]
        return [number for part in parts for number in part]

    def test_the_count_stands_ahead_of_each_answer(self):
        expected = [1, -5, 1, 0, 6, 0, 2, 2, 3, 0, 0, 1, 0, 3, -6, 7, 3, 6, 0, 2, 2, 3, 2, 3, 3, -6, 0, 1, 1, 0]
        expected += [6, 0, 2, 2, 3, 0, 0]
        self.assertEqual(answers(self.many_calls()), expected)

    def test_each_call_first_and_alone(self):
        self.assertEqual(answers([3]), [1, -5])
        self.assertEqual(answers([4, 0]), [1, -5])
        self.assertEqual(answers([5, 0]), [1, -5])
        self.assertEqual(answers([6]), [1, -5])
        self.assertEqual(answers([7, 0, 1]), [1, -5])
        self.assertEqual(answers([0, 0]), [3, -6, 0, 3])
        self.assertEqual(answers([1, 0]), [1, 0])
        self.assertEqual(answers([2, 0]), [1, 0])
        self.assertEqual(answers([0, 1, 10]), [3, -6, 0, 1])
        self.assertEqual(answers([1, 1, 10]), [3, -6, 0, 1])
        self.assertEqual(answers([2, 1, 10]), [3, -6, 0, 1])

    def test_bytes_that_look_like_calls(self):
        self.assertEqual(answers([1, 5, 3, 3, 0, 1, 2, 3]), [3, -6, 0, 1, 1, -5])

    def test_boats_that_look_like_calls(self):
        self.assertEqual(answers([4, 7, 5, 4, 7, 6, 5, 6, 3]), [1, -5] * 5)

    def test_as_many_calls_as_may_be(self):
        self.assertEqual(answers(SIZES * 400), [1, -5] * 400)
        self.assertEqual(answers([1, 0] * 400), [1, 0] * 400)

    def test_texts_as_long_as_may_be(self):
        row = lines("boat a", "wind 1 0") + "at 0 0 0 1\n" * 1452
        text = row + "?" * (16000 - len(row))
        self.assertEqual(asked(log(text), race(text), more(row), SIZES)[:3],
                         [fault(1454, NOT_FORMED), fault(0, NOT_FORMED), [0]])

    def test_what_is_handed_in_is_not_changed(self):
        calls = self.many_calls()
        before = list(calls)
        answers(calls)
        self.assertEqual(calls, before)

    def test_what_is_given_back_is_a_list_of_whole_numbers(self):
        given = answers(self.many_calls())
        self.assertIs(type(given), list)
        self.assertEqual({type(number) for number in given}, {int})

    def test_the_same_answer_when_called_twice(self):
        calls = self.many_calls()
        first = answers(calls)
        kept = list(first)
        self.assertEqual(answers(calls), first)
        first.append(7)
        first[0] = 99
        self.assertEqual(answers(calls), kept)

    def test_nothing_is_kept(self):
        self.assertEqual(asked(race(GOOD_RACE), log(GOOD_LOG)), [[0], [0]])
        self.assertEqual(asked(SIZES), [[-5]])
        self.assertEqual(asked(more("at 1 2 3 4\n")), [fault(0, CANNOT_STAND)])
        self.assertEqual(asked(race(GOOD_RACE), SIZES)[-1][-2:], [0, 0])

    def test_no_such_call(self):
        with self.assertRaises(UnknownCall):
            answers([8])
        with self.assertRaises(UnknownCall):
            answers([-1])


BY_THE_WEST = race_text(marks=[(5, 50)], course=[(-20, 50)])
BY_THE_EAST = race_text(marks=[(5, 50)], course=[(30, 50)], moment=1, handicaps=[("b1", 500)])
WEST = [(5, -1), (5, -1), (5, 1), (-20, 50), (5, 99), (5, 101)]
EAST = [(5, 0), (5, 0), (5, 1), (30, 50), (5, 98), (5, 101)]
LOG_OF_TWO = log_text(WEST, EAST)
WEST_BY_THE_WEST = finished(1, 4, (1, 2), (9, 2))
EAST_BY_THE_WEST = not_finished(1)
WEST_BY_THE_EAST = not_finished(1)
EAST_BY_THE_EAST = finished(1, 4, (2, 3), (22, 3))
ALL_FARES = [fare(0), fare(1), place(0), place(1), ORDER, before(0, 1), before(1, 1)]
BY_WEST = [WEST_BY_THE_WEST, EAST_BY_THE_WEST, [0, 1, 1], [-3], [1, 0], [-3], [-3]]
BY_EAST = [WEST_BY_THE_EAST, EAST_BY_THE_EAST, [-3], [0, 1, 1], [1, 1], [-3], [0]]


class TestAllEightCalls(unittest.TestCase):
    def mixed(self):
        first = [race(BY_THE_WEST), log(LOG_OF_TWO)] + ALL_FARES
        second = [race(BY_THE_EAST)] + ALL_FARES + [more("at 7 7 7 6 8 8 8 7\n"), SIZES, fare(2), before(0, 2), log("")]
        return [number for part in first + second + [fare(0), ORDER] for number in part]

    def test_the_count_stands_ahead_of_each_answer(self):
        expected = [[0], [0]] + BY_WEST + [[0]] + BY_EAST
        expected += [[0], [0, 1, 1, 1, 2, 7], [-4], [-4], [0], [-4], [0]]
        self.assertEqual(answers(self.mixed()), [number for part in expected for number in [len(part)] + part])

    def test_what_is_handed_in_is_not_changed(self):
        calls = self.mixed()
        kept = list(calls)
        answers(calls)
        self.assertEqual(calls, kept)

    def test_the_same_answer_when_called_twice(self):
        calls = self.mixed()
        first = answers(calls)
        self.assertEqual(answers(list(calls)), first)
        self.assertEqual(answers(calls), first)

    def test_whole_numbers_alone(self):
        self.assertEqual({type(number) for number in answers(self.mixed())}, {int})

    def test_a_new_race(self):
        told = asked(log(LOG_OF_TWO), race(BY_THE_WEST), *ALL_FARES, race(BY_THE_EAST), *ALL_FARES, race(BY_THE_WEST),
                     *ALL_FARES)
        self.assertEqual(told, [[0], [0]] + BY_WEST + [[0]] + BY_EAST + [[0]] + BY_WEST)

    def test_a_new_log(self):
        turned = log_text(EAST, WEST)
        told = asked(race(BY_THE_WEST), log(turned), *ALL_FARES, log(LOG_OF_TWO), *ALL_FARES)
        self.assertEqual(told[2:6], [EAST_BY_THE_WEST, WEST_BY_THE_WEST, [-3], [0, 1, 1]])
        self.assertEqual(told[-7:], BY_WEST)

    def test_a_log_that_grows(self):
        rows = LOG_OF_TWO.splitlines(keepends=True)
        told = asked(race(BY_THE_WEST), log("".join(rows[:5])), fare(0), more(rows[5]), fare(0), more("".join(rows[6:8])),
                     fare(0), ORDER, more(rows[8]), fare(0), ORDER)
        self.assertEqual(told[2:], [not_started(), [0], not_finished(1), [0], not_finished(1), [0], [0],
                                    WEST_BY_THE_WEST, [1, 0]])

    def test_refused_texts_change_nothing(self):
        wrong = [
            race("?\n"), race(""), race(BY_THE_EAST + "x"), log("?\n"), log(LOG_OF_TWO + "boat x\n"), more("at 1 2\n"),
            more("wind 0 -5\n"), more("?"), race(" " * 65537), log(" " * 65537), more(" " * 65537)]
        for call in wrong:
            told = asked(race(BY_THE_WEST), log(LOG_OF_TWO), *ALL_FARES, call, *ALL_FARES)
            self.assertIn(told[9][0], (-2, -6))
            self.assertEqual(told[2:9], BY_WEST)
            self.assertEqual(told[10:], BY_WEST)
            # Also where nothing was asked before the refusal.
            self.assertEqual(asked(race(BY_THE_WEST), log(LOG_OF_TWO), call, *ALL_FARES)[3:], BY_WEST)

    def test_nothing_is_kept_from_one_time_to_the_next(self):
        asked(race(BY_THE_WEST), log(LOG_OF_TWO), *ALL_FARES)
        self.assertEqual(asked(*ALL_FARES), [[-5]] * 7)
        self.assertEqual(asked(race(BY_THE_WEST), fare(0), ORDER), [[0], [-4], [0]])

    def test_the_calls_in_whatever_order(self):
        told = asked(race(BY_THE_WEST), log(LOG_OF_TWO), *reversed(ALL_FARES))
        self.assertEqual(told[2:], BY_WEST[::-1])


if __name__ == "__main__":
    unittest.main()
