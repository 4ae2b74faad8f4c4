"""What is formed: numbers, names, blanks, bytes, line feeds. Every reason here is 1, but where told."""

import unittest

from tests.calls import CANNOT_STAND, GOOD_LOG, GOOD_RACE, NOT_FORMED, fault, lines, read_log, read_race

BAD_NUMBERS = [
    "00", "01", "007", "-0", "-00", "-01", "+1", "+0", "--1", "-", "+", "1-", "1.0", "1e3", "0x1", "1_0", "1,0",
    "a", "1a", "a1", "1048577", "-1048577", "1048580", "9999999", "10000000", "-10000000", "01048576",
    "9" * 5000, "-" + "9" * 5000, "0" * 5000, "1" + "0" * 9000,
]
GOOD_NUMBERS = ["1", "-1", "9", "10", "-10", "1048576", "-1048576", "1048575", "999999"]

BAD_NAMES = [
    "", "abcdefghijklm", "0123456789012", "a" * 5000,
    "A", "aB", "a-b", "-", "a_b", "a.b", "a?b", "?", "a\xe9", "{", "`", "/", ":",
]
GOOD_NAMES = ["a", "z", "0", "9", "00", "a0", "0a", "abcdefghijkl", "012345678901", "boat", "wind", "at", "handicap"]

LOG_HEAD = lines("boat a", "wind 1 0")
RACE_HEAD = lines("start 0 0 100 0 5", "finish 0 500 100 500")
RACE_MIDDLE = RACE_HEAD + lines("mark 50 250")
RACE_BODY = RACE_MIDDLE + lines("course 200 250")


class TestNumbers(unittest.TestCase):
    def test_bad_numbers_of_a_wind(self):
        for number in BAD_NUMBERS:
            with self.subTest(number=number[:20]):
                self.assertEqual(read_log(lines("boat a", "wind %s 1" % number)), fault(1, NOT_FORMED))
                self.assertEqual(read_log(lines("boat a", "wind 1 %s" % number)), fault(1, NOT_FORMED))

    def test_bad_numbers_of_a_moment(self):
        for number in BAD_NUMBERS:
            for at in range(4):
                numbers = ["3", "4", "5", "6"]
                numbers[at] = number
                with self.subTest(number=number[:20], at=at):
                    self.assertEqual(read_log(LOG_HEAD + lines("at " + " ".join(numbers))), fault(2, NOT_FORMED))

    def test_bad_numbers_of_each_line_of_a_race(self):
        heads = [
            (0, "", "start 3 4 5 6 7"),
            (1, lines("start 0 0 100 0 5"), "finish 3 4 5 6"),
            (2, RACE_HEAD, "mark 3 4"),
            (3, RACE_MIDDLE, "course 3 4 5 6"),
        ]
        for number in BAD_NUMBERS:
            for line, head, row in heads:
                words = row.split(" ")
                for at in range(1, len(words)):
                    changed = words[:at] + [number] + words[at + 1:]
                    with self.subTest(number=number[:20], row=row, at=at):
                        self.assertEqual(read_race(head + lines(" ".join(changed))), fault(line, NOT_FORMED))
            with self.subTest(number=number[:20], row="handicap"):
                self.assertEqual(read_race(RACE_BODY + lines("handicap a " + number)), fault(4, NOT_FORMED))

    def test_good_numbers(self):
        for number in GOOD_NUMBERS + ["0"]:
            with self.subTest(number=number):
                self.assertEqual(read_log(lines("boat a", "wind %s 7" % number)), [0])
                self.assertEqual(read_log(lines("boat a", "wind 7 %s" % number)), [0])
                self.assertEqual(read_log(LOG_HEAD + lines("at %s 3 20 4" % number)), [0])
                self.assertEqual(read_race(RACE_HEAD + lines("mark %s 3" % number, "course -5 -5 -5 500")), [0])
                self.assertEqual(read_race(RACE_MIDDLE + lines("course 3 %s" % number)), [0])


class TestNames(unittest.TestCase):
    def test_bad_names(self):
        for name in BAD_NAMES:
            with self.subTest(name=name[:20]):
                self.assertEqual(read_log(lines("boat " + name)), fault(0, NOT_FORMED))
                self.assertEqual(read_race(RACE_BODY + lines("handicap %s 900" % name)), fault(4, NOT_FORMED))

    def test_good_names(self):
        for name in GOOD_NAMES:
            with self.subTest(name=name):
                self.assertEqual(read_log(lines("boat " + name)), [0])
                self.assertEqual(read_race(RACE_BODY + lines("handicap %s 900" % name)), [0])


class TestCounts(unittest.TestCase):
    def test_log_lines_of_a_wrong_count(self):
        rows = [
            "boat", "boat a b", "wind", "wind 1", "wind 1 2 3",
            "at", "at 1", "at 1 2", "at 1 2 3", "at 1 2 3 4 5", "at 1 2 3 4 5 6",
        ]
        for row in rows:
            with self.subTest(row=row):
                self.assertEqual(read_log(LOG_HEAD + lines(row)), fault(2, NOT_FORMED))

    def test_race_lines_of_a_wrong_count(self):
        rows = [
            "start", "start 0", "start 0 0 1 0", "start 0 0 1 0 5 5", "finish", "finish 0 0 1", "finish 0 0 1 0 5",
            "mark", "mark 1", "mark 1 2 3", "mark 1 2 3 4", "course", "course 1", "course 1 2 3",
            "handicap", "handicap a", "handicap 900", "handicap a 900 900", "handicap a b", "handicap 9 a",
        ]
        for row in rows:
            with self.subTest(row=row):
                self.assertEqual(read_race(RACE_BODY + lines(row)), fault(4, NOT_FORMED))

    def test_lines_of_no_kind(self):
        rows = [
            "", " ", "?", "boats a", "Boat a", "BOAT a", "boa t", "winds 1 2", "att 1 2 3 4", "1 2 3 4",
            "# boat", "a", "-",
        ]
        for row in rows:
            with self.subTest(row=row):
                self.assertEqual(read_log(LOG_HEAD + lines(row)), fault(2, NOT_FORMED))
                self.assertEqual(read_race(RACE_BODY + lines(row)), fault(4, NOT_FORMED))

    def test_a_kind_of_the_other_text(self):
        for row in ["boat a", "wind 1 2", "at 1 2 3 4"]:
            self.assertEqual(read_race(RACE_BODY + lines(row)), fault(4, NOT_FORMED))
        for row in ["start 0 0 1 0 5", "finish 0 0 1 0", "mark 1 2", "course 1 2", "handicap a 900"]:
            self.assertEqual(read_log(LOG_HEAD + lines(row)), fault(2, NOT_FORMED))


class TestBlanks(unittest.TestCase):
    def each_line(self, change):
        for read, text in ((read_log, GOOD_LOG), (read_race, GOOD_RACE)):
            rows = text.splitlines()
            for number, row in enumerate(rows):
                for changed in change(row):
                    with self.subTest(row=changed):
                        whole = lines(*rows[:number], changed, *rows[number + 1:])
                        self.assertEqual(read(whole), fault(number, NOT_FORMED))

    def test_two_blanks(self):
        self.each_line(lambda row: [row[:k] + " " + row[k:] for k in range(len(row)) if row[k] == " "])

    def test_blank_ahead_and_behind(self):
        self.each_line(lambda row: [" " + row, row + " ", "  " + row, row + "  "])

    def test_no_blank_behind_the_kind(self):
        self.each_line(lambda row: [row.replace(" ", "", 1), row.replace(" ", "")])

    def test_other_bytes(self):
        for byte in (0, 1, 9, 11, 12, 13, 28, 31, 127, 128, 133, 160, 178, 185, 255):
            sign = bytes([byte]).decode("latin-1")
            self.each_line(lambda row: [row + sign, sign + row, row.replace(" ", sign, 1), row[:-1] + sign])

    def test_every_byte_within_a_name_and_a_number(self):
        for byte in range(256):
            if byte == 10:
                continue
            with self.subTest(byte=byte):
                told = read_log(b"boat a" + bytes([byte]) + b"b\n")
                is_good = byte in b"abcdefghijklmnopqrstuvwxyz0123456789"
                self.assertEqual(told, [0] if is_good else fault(0, NOT_FORMED))
                told = read_log(b"boat a\nwind 1" + bytes([byte]) + b"1 5\n")
                is_good = byte in b"0123456789"
                self.assertEqual(told, [0] if is_good else fault(1, NOT_FORMED))


class TestLineFeeds(unittest.TestCase):
    def test_last_line_without_its_line_feed(self):
        for read, text in ((read_log, GOOD_LOG), (read_race, GOOD_RACE)):
            rows = text.splitlines()
            for number in range(len(rows)):
                with self.subTest(row=rows[number]):
                    cut = "\n".join(rows[:number + 1])
                    self.assertEqual(read(cut), fault(number, NOT_FORMED))

    def test_every_beginning_of_a_text(self):
        for read, text in ((read_log, GOOD_LOG), (read_race, GOOD_RACE)):
            for size in range(1, len(text)):
                if text[size - 1] != "\n":
                    self.assertEqual(read(text[:size]), fault(text[:size].count("\n"), NOT_FORMED))

    def test_empty_line(self):
        for read, text in ((read_log, GOOD_LOG), (read_race, GOOD_RACE)):
            rows = text.splitlines()
            for number in range(len(rows) + 1):
                with self.subTest(number=number):
                    self.assertEqual(read(lines(*rows[:number], "", *rows[number:])), fault(number, NOT_FORMED))

    def test_line_feed_alone(self):
        self.assertEqual(read_log("\n"), fault(0, NOT_FORMED))
        self.assertEqual(read_race("\n"), fault(0, NOT_FORMED))

    def test_empty_text(self):
        self.assertEqual(read_log(""), [0])
        self.assertEqual(read_race(""), fault(0, CANNOT_STAND))

    def test_a_blank_or_a_sign_alone(self):
        for text in (" ", "a", "0", "-", "\r", "\x00"):
            self.assertEqual(read_log(text), fault(0, NOT_FORMED))
            self.assertEqual(read_race(text), fault(0, NOT_FORMED))

    def test_carriage_returns_are_not_line_ends(self):
        self.assertEqual(read_log(GOOD_LOG.replace("\n", "\r\n")), fault(0, NOT_FORMED))
        self.assertEqual(read_race(GOOD_RACE.replace("\n", "\r\n")), fault(0, NOT_FORMED))


if __name__ == "__main__":
    unittest.main()
