"""Builds lists of calls, and takes the answers apart again."""

from racelogs.desk import answers

RACE, LOG, MORE = 0, 1, 2
SIZES = [3]

NOT_FORMED, TOO_MUCH, CANNOT_STAND, CLASHES = 1, 2, 3, 4


def as_bytes(text):
    return list(text if isinstance(text, bytes) else text.encode("latin-1"))


def text_call(number, text):
    row = as_bytes(text)
    return [number, len(row)] + row


def race(text):
    return text_call(RACE, text)


def log(text):
    return text_call(LOG, text)


def more(text):
    return text_call(MORE, text)


def lines(*rows):
    return "".join(row + "\n" for row in rows)


def in_calls(text):
    """The calls more that tell a log of any length, whole lines in each, within what one call may have."""
    parts = [""]
    for line in text.splitlines(keepends=True):
        if len(parts[-1]) + len(line) > 16000:
            parts.append("")
        parts[-1] += line
    return [more(part) for part in parts]


def fault(line, why):
    return [-6, line, why]


def apart(given):
    """The answers, one list each; an error if the counts don't fit."""
    parts = []
    k = 0
    while k < len(given):
        parts.append(given[k + 1:k + 1 + given[k]])
        if len(parts[-1]) != given[k]:
            raise ValueError("a count reaches behind the end")
        k += 1 + given[k]
    return parts


def asked(*calls):
    return apart(answers([number for call in calls for number in call]))


def read_race(text):
    return asked(race(text))[0]


def read_log(text):
    return asked(log(text))[0]


GOOD_RACE = lines(
    "start 0 0 100 0 5",
    "finish 0 500 100 500",
    "mark 50 250",
    "mark 300 250",
    "course 200 250 400 300",
    "handicap anna 900",
    "handicap bert 1100",
    "handicap carl 1000",
)
GOOD_RACE_SIZES = [2, 2, 3]

GOOD_LOG = lines(
    "boat anna",
    "boat bert",
    "wind 0 -5",
    "at 10 -10 10 -14 30 -10 30 -14",
    "at 10 -5 10 -9 30 -4 30 -8",
    "wind 1 -5",
    "at 11 0 10 -4 31 2 30 -2",
)
GOOD_LOG_SIZES = [2, 3]
