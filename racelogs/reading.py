"""The fault of a text, whatever the text is of.

A sheet is a race or a log that is being read, line by line. It is asked of each line by the line's
kind, the first word, and by what the line tells behind it.
"""

from racelogs.words import signs_of, words_of

STANDS = 0
NOT_FORMED = 1
TOO_MUCH = 2
CANNOT_STAND = 3
CLASHES = 4


def why_line_is_wrong(sheet, kind, told):
    if told is None:
        return NOT_FORMED
    if not sheet.can_stand(kind, told):
        return CANNOT_STAND
    if sheet.clashes(kind, told):
        return CLASHES
    if sheet.is_too_much(kind):
        return TOO_MUCH
    return STANDS


def read_line(sheet, words):
    told = sheet.told_by(words[0], words[1:])
    why = why_line_is_wrong(sheet, words[0], told)
    if why == STANDS:
        sheet.take(words[0], told)
    return why


def fault_of(sheet, text):
    lines = signs_of(text).split("\n")
    # What is behind the last line feed is a line only if there is something.
    unended = lines.pop()
    for number, line in enumerate(lines):
        why = read_line(sheet, words_of(line))
        if why != STANDS:
            return (number, why)
    if unended != "":
        return (len(lines), NOT_FORMED)
    if not sheet.is_whole():
        return (len(lines), CANNOT_STAND)
    return None
