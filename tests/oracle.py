"""The document's words on texts once more, written another way, to hold the program against."""

import re
from fractions import Fraction

NAME = rb"[a-z0-9]{1,12}"
NUMBER = rb"(?:0|-?[1-9][0-9]*)"


def formed(pattern, line):
    """The line's words behind the first if it's formed so, else None."""
    return line.split(b" ")[1:] if re.fullmatch(pattern, line) else None


def numbers(words):
    return [int(word) for word in words]


def in_range(words):
    return all(len(word) < 9 and -2 ** 20 <= int(word) <= 2 ** 20 for word in words)


def rows(count):
    return b"(?: " + NUMBER + b")" + count


def on_straight(mark, p, q):
    """Whether mark is p + t (q - p) for a t from 0 to 1."""
    if p == q:
        return mark == p
    axis = 0 if p[0] != q[0] else 1
    t = Fraction(mark[axis] - p[axis], q[axis] - p[axis])
    return 0 <= t <= 1 and all(p[k] + t * (q[k] - p[k]) == mark[k] for k in (0, 1))


def split(text):
    """The text's lines, each with whether its line feed is there."""
    return [(line.rstrip(b"\n"), line.endswith(b"\n")) for line in re.findall(rb"[^\n]*\n|[^\n]+", text)]


def log_reasons(told, line):
    """The reasons that hold of a line behind the lines that are told."""
    boats = [words for kind, words in told if kind == b"boat"]
    winds = [words for kind, words in told if kind == b"wind"]
    moments = [words for kind, words in told if kind == b"at"]
    kind = line.split(b" ")[0]
    if kind == b"boat" and formed(b"boat " + NAME, line):
        words = formed(b"boat " + NAME, line)
        return kind, words, [
            (3, len(boats) < len(told)), (4, words in boats), (2, len(boats) >= 64)]
    if kind == b"wind" and formed(b"wind" + rows(b"{2}"), line):
        words = formed(b"wind" + rows(b"{2}"), line)
        return kind, words, [
            (1, not in_range(words)), (3, not boats),
            (4, words == [b"0", b"0"] or bool(winds) and words == winds[-1]), (2, len(winds) >= 4096)]
    if kind == b"at" and formed(b"at" + rows(b"{4,256}"), line):
        words = formed(b"at" + rows(b"{4,256}"), line)
        reasons = [(1, len(words) % 4 != 0 or not in_range(words)), (3, not winds or len(words) != 4 * len(boats))]
        if not any(holds for why, holds in reasons):
            reasons += [(4, moment_clashes(numbers(words), moments)), (2, len(moments) >= 4096)]
        return kind, words, reasons
    return kind, None, [(1, True)]


def moment_clashes(values, moments):
    before = numbers(moments[-1]) if moments else None
    for k in range(0, len(values), 4):
        x, y = values[k] - values[k + 2], values[k + 1] - values[k + 3]
        if x == 0 and y == 0:
            return True
        if before:
            u, v = before[k] - before[k + 2], before[k + 1] - before[k + 3]
            if u * y == v * x and u * x + v * y < 0:
                return True
    return False


ORDER = {
    b"start": rb"", b"finish": rb"S", b"mark": rb"SFM*", b"course": rb"SFM+", b"handicap": rb"SFM+CH*"}
LETTER = {b"start": b"S", b"finish": b"F", b"mark": b"M", b"course": b"C", b"handicap": b"H"}
FORMS = {
    b"start": b"start" + rows(b"{5}"), b"finish": b"finish" + rows(b"{4}"), b"mark": b"mark" + rows(b"{2}"),
    b"course": b"course(?: " + NUMBER + b" " + NUMBER + b"){1,64}", b"handicap": b"handicap " + NAME + rows(b"{1}")}


def race_reasons(told, line):
    kind = line.split(b" ")[0]
    words = formed(FORMS[kind], line) if kind in FORMS else None
    if words is None:
        return kind, None, [(1, True)]
    wrong = not in_range(words[1:] if kind == b"handicap" else words)
    if not wrong and kind in (b"start", b"finish"):
        wrong = words[:2] == words[2:4] or kind == b"start" and not 0 <= int(words[4]) < 4096
    if not wrong and kind == b"handicap":
        wrong = not 1 <= int(words[1]) < 10000
    order = b"".join(LETTER[earlier] for earlier, rest in told)
    reasons = [(1, wrong), (3, re.fullmatch(ORDER[kind], order) is None)]
    if not any(holds for why, holds in reasons):
        reasons += [(4, race_clashes(kind, words, told)),
                    (2, kind == b"mark" and order.count(b"M") >= 32 or kind == b"handicap" and order.count(b"H") >= 64)]
    return kind, words, reasons


def pairs(words):
    values = numbers(words)
    return list(zip(values[::2], values[1::2]))


def race_clashes(kind, words, told):
    marks = [pairs(rest)[0] for earlier, rest in told if earlier == b"mark"]
    ends = [pairs(rest[:4]) for earlier, rest in told if earlier in (b"start", b"finish")]
    if kind == b"mark":
        mark = pairs(words)[0]
        return mark in marks or any(on_straight(mark, p, q) for p, q in ends)
    if kind == b"course":
        way = [ends[0][0]] + pairs(words) + [ends[1][0]]
        return any(on_straight(mark, p, q) for mark in marks for p, q in zip(way, way[1:]))
    return kind == b"handicap" and words[0] in [rest[0] for earlier, rest in told if earlier == b"handicap"]


def answer(reasons_of, text, wants=None):
    told = []
    found = split(text)
    for number, (line, is_ended) in enumerate(found):
        kind, words, reasons = reasons_of(told, line)
        if not is_ended:
            return [-6, number, 1]
        for why in (1, 3, 4, 2):
            if (why, True) in reasons:
                return [-6, number, why]
        told.append((kind, words))
    if wants is not None and wants not in [kind for kind, words in told]:
        return [-6, len(found), 3]
    return [0]


def log_answer(text):
    return answer(log_reasons, text)


def race_answer(text):
    return answer(race_reasons, text, b"course")
