"""Many texts, good ones and ones that are changed a little, held against tests/oracle.py."""

import random
import unittest

from tests.calls import asked, log, more, read_log, read_race
from tests.oracle import log_answer, race_answer

NUMBERS = [0, 0, 1, 1, 2, 3, -1, -2, 4, 5, 1048576, -1048576]
PIECES = [b"", b" ", b"\n", b"0", b"-", b"-0", b"00", b"a", b"A", b"boat ", b"wind ", b"at ", b"mark ", b"start ", b"\r",
          b"\0", b"\t", b"\xff", b"1048577", b" 1", b"9999", b"10000", b"4096", b"course ", b"finish ", b"handicap "]
HOW_MANY = 3000


def number(chance):
    return b"%d" % chance.choice(NUMBERS)


def row(chance, kind, count):
    return b" ".join([kind] + [number(chance) for k in range(count)]) + b"\n"


def name(chance):
    return bytes(chance.choice(b"abc019") for k in range(chance.choice([1, 1, 1, 2, 12])))


def some_log(chance):
    boats = chance.randint(1, 3)
    told = [b"boat " + name(chance) + b"\n" for k in range(boats)]
    told.append(row(chance, b"wind", 2))
    for k in range(chance.randint(0, 6)):
        kind, count = chance.choice([(b"wind", 2), (b"at", 4 * boats), (b"at", 4 * boats), (b"at", 4 * boats)])
        told.append(row(chance, kind, count))
    return told


def some_race(chance):
    told = [row(chance, b"start", 4)[:-1] + b" %d\n" % chance.choice([0, 1, 4095, 7]), row(chance, b"finish", 4)]
    told += [row(chance, b"mark", 2) for k in range(chance.randint(1, 3))]
    told.append(row(chance, b"course", 2 * chance.randint(1, 4)))
    for k in range(chance.randint(0, 3)):
        told.append(b"handicap " + name(chance) + b" %d\n" % chance.choice([1, 9999, 900, 1000]))
    return told


def changed(chance, told):
    told = list(told)
    way = chance.randint(0, 5)
    at = chance.randrange(len(told))
    if way == 0:
        told.insert(chance.randrange(len(told) + 1), told[at])
    elif way == 1:
        told.pop(at)
    elif way == 2:
        told.append(told.pop(at))
    text = b"".join(told)
    if way in (3, 4):
        at = chance.randrange(len(text) + 1)
        text = text[:at] + chance.choice(PIECES) + text[at + chance.choice([0, 0, 1, 2]):]
    return text


class TestAgainstTheWords(unittest.TestCase):
    def held_against(self, read, told_by_words, some):
        chance = random.Random(7)
        seen = {}
        for k in range(HOW_MANY):
            text = changed(chance, some(chance))
            told = read(text)
            self.assertEqual(told, told_by_words(text), text)
            seen[told[-1]] = seen.get(told[-1], 0) + 1
        # Too much is seen by other tests; here every other reason and good texts must come often.
        for why in (0, 1, 3, 4):
            self.assertGreater(seen.get(why, 0), HOW_MANY // 50, seen)

    def test_logs(self):
        self.held_against(read_log, log_answer, some_log)

    def test_races(self):
        self.held_against(read_race, race_answer, some_race)

    def test_more_is_the_log_of_both_texts(self):
        chance = random.Random(8)
        for k in range(HOW_MANY):
            text = changed(chance, some_log(chance))
            at = chance.randrange(len(text) + 1)
            first, second = asked(log(text[:at]), more(text[at:]))
            self.assertEqual(first, log_answer(text[:at]))
            held = text[:at] if first == [0] else b""
            self.assertEqual(second, log_answer(held + text[at:]))


if __name__ == "__main__":
    unittest.main()
