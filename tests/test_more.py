"""The call more: the held log's text with a new one behind it."""

import unittest

from racelogs.desk import Desk
from tests.calls import (
    CANNOT_STAND, CLASHES, GOOD_LOG, GOOD_RACE, NOT_FORMED, SIZES, as_bytes, asked, fault, in_calls, lines, log, more,
    race)

HEAD = lines("boat a", "wind 1 0")
AT = "at 0 0 0 1\n"


def sizes_behind(*calls):
    """Boats and moments that are held behind these calls."""
    return asked(race(GOOD_RACE), *calls, SIZES)[-1][-2:]


def moment_of(size):
    """A line at for one boat with just so many bytes, 11 to 23."""
    x = min(6, size - 11)
    y = size - 11 - x
    return "at 1%s 1%s 0 0\n" % ("0" * x, "0" * y)


def log_of(size):
    """A good log's text with just so many bytes."""
    full = "at 1000001 1000000 1000000 1000000\n"
    text = HEAD + full * ((size - len(HEAD)) // len(full) - 1)
    left = size - len(text)
    for rows_left in (3, 2, 1):
        part = min(23, left - 11 * (rows_left - 1))
        text += moment_of(part)
        left -= part
    return text


class TestMore(unittest.TestCase):
    def test_behind_an_empty_log(self):
        self.assertEqual(asked(more(GOOD_LOG)), [[0]])
        self.assertEqual(sizes_behind(more(GOOD_LOG)), [2, 3])
        self.assertEqual(sizes_behind(log(""), more(GOOD_LOG)), [2, 3])

    def test_behind_a_held_log(self):
        self.assertEqual(sizes_behind(log(lines("boat a")), more(lines("boat b", "wind 1 0"))), [2, 0])
        self.assertEqual(sizes_behind(log(HEAD), more(AT), more(AT + AT)), [1, 3])

    def test_line_by_line(self):
        calls = [more(line) for line in GOOD_LOG.splitlines(keepends=True)]
        self.assertEqual(asked(*calls), [[0]] * len(calls))
        self.assertEqual(sizes_behind(*calls), [2, 3])

    def test_nothing_more(self):
        self.assertEqual(asked(more(""), log(HEAD + AT), more("")), [[0]] * 3)
        self.assertEqual(sizes_behind(log(HEAD + AT), more("")), [1, 1])

    def test_the_fault_is_counted_in_the_whole_text(self):
        self.assertEqual(asked(log(HEAD + AT), more("?\n"))[-1], fault(3, NOT_FORMED))
        self.assertEqual(asked(log(HEAD + AT), more(AT + "at 0 1 0 0\n"))[-1], fault(4, CLASHES))
        self.assertEqual(asked(log(HEAD + AT), more("at 0 1 0 0\n"))[-1], fault(3, CLASHES))
        self.assertEqual(asked(log(HEAD), more("boat b\n"))[-1], fault(2, CANNOT_STAND))
        self.assertEqual(asked(log(HEAD), more("wind 1 0\n"))[-1], fault(2, CLASHES))
        self.assertEqual(asked(log(lines("boat a")), more(lines("boat b", "boat a")))[-1], fault(2, CLASHES))
        self.assertEqual(asked(log(HEAD), more(AT[:-1]))[-1], fault(2, NOT_FORMED))
        self.assertEqual(asked(log(HEAD), more("\n"))[-1], fault(2, NOT_FORMED))
        self.assertEqual(asked(more("\n"))[-1], fault(0, NOT_FORMED))

    def test_a_line_is_not_told_in_two_parts(self):
        self.assertEqual(asked(more("boat"), more(" a\n")), [fault(0, NOT_FORMED), fault(0, NOT_FORMED)])

    def test_refused_the_log_is_as_it_was(self):
        self.assertEqual(sizes_behind(log(HEAD + AT), more(AT + "?\n")), [1, 1])
        told = asked(log(HEAD + AT), more(AT + "at 0 1 0 0\n"), more(AT), more("?\n"))
        self.assertEqual(told, [[0], fault(4, CLASHES), [0], fault(4, NOT_FORMED)])

    def test_behind_a_refused_log(self):
        told = asked(log(HEAD + AT), log("?\n"), more(AT), more("?\n"))
        self.assertEqual(told, [[0], fault(0, NOT_FORMED), [0], fault(4, NOT_FORMED)])

    def test_a_new_log_takes_the_place_of_all_that_was_more(self):
        told = asked(log(HEAD), more(AT), log(lines("boat b")), more("?\n"), more("wind 1 0\n"))
        self.assertEqual(told, [[0], [0], [0], fault(1, NOT_FORMED), [0]])
        self.assertEqual(sizes_behind(log(HEAD), more(AT), log(lines("boat b", "boat c")), more("wind 1 0\n")), [2, 0])

    def test_a_race_leaves_the_log_alone(self):
        self.assertEqual(sizes_behind(log(HEAD), race(GOOD_RACE), more(AT), race("?"), more(AT)), [1, 2])


class TestMostBytes(unittest.TestCase):
    def test_just_as_many_as_may_be(self):
        text = log_of(65536)
        self.assertEqual(len(text), 65536)
        calls = in_calls(text)
        self.assertEqual(asked(*calls), [[0]] * len(calls))
        self.assertEqual(sizes_behind(*calls), [1, text.count("\nat ")])

    def test_one_byte_more(self):
        text = log_of(65537)
        self.assertEqual(len(text), 65537)
        calls = in_calls(text)
        self.assertEqual(asked(*calls), [[0]] * (len(calls) - 1) + [[-2]])

    def test_one_byte_behind_a_full_log(self):
        told = asked(*in_calls(log_of(65536)), more("?"), more(""), more("\n"))
        self.assertEqual(told[-3:], [[-2], [0], [-2]])

    def test_refused_the_log_is_as_it_was(self):
        calls = in_calls(log_of(65537))
        held = sizes_behind(*calls[:-1])
        self.assertEqual(sizes_behind(*calls), held)
        self.assertEqual(asked(*calls, more(AT), more("?\n"))[-2:], [[0], fault(2 + held[1] + 1, NOT_FORMED)])

    def test_too_long_is_told_before_a_fault(self):
        text = log_of(65530)
        told = asked(*in_calls(text), more("??????"), more("???????"))
        self.assertEqual(told[-2:], [fault(text.count("\n"), NOT_FORMED), [-2]])

    def test_a_race_and_a_log_of_too_many_bytes(self):
        # Such texts are longer than a list of calls hands in, so the desk is asked itself.
        for size, answer in ((65536, fault(0, NOT_FORMED)), (65537, [-2]), (100000, [-2])):
            desk = Desk()
            self.assertEqual(desk.race(as_bytes("?" * size)), answer)
            self.assertEqual(desk.log(as_bytes("?" * size)), answer)
            self.assertEqual(desk.more(as_bytes("?" * size)), answer)


if __name__ == "__main__":
    unittest.main()
