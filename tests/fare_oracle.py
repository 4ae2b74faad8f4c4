"""The document's words on strings, fares and places once more, written another way, to hold the program against.

Nothing is kept from step to step: each crossing looks at the whole way again. Times are Fractions.
"""

from fractions import Fraction

from tests.oracle import on_straight


def side(spot, line):
    p, q = line
    return (q[0] - p[0]) * (spot[1] - p[1]) - (q[1] - p[1]) * (spot[0] - p[0])


def over(line, c, d):
    if side(c, line) > 0 or side(d, line) <= 0:
        return None
    when = Fraction(-side(c, line), side(d, line) - side(c, line))
    met = [c[k] + when * (d[k] - c[k]) for k in (0, 1)]
    ends = [sorted((line[0][k], line[1][k])) for k in (0, 1)]
    return when if all(ends[k][0] <= met[k] <= ends[k][1] for k in (0, 1)) else None


def steps(way):
    return list(zip(way, way[1:]))


def touches(marks, way):
    return any(on_straight(mark, c, d) for c, d in steps(way) for mark in marks)


def word(marks, way):
    letters = []
    for c, d in steps(way):
        of_step = []
        for k, mark in enumerate(marks):
            if (c[0] < mark[0]) == (d[0] < mark[0]):
                continue
            height = c[1] + Fraction((d[1] - c[1]) * (mark[0] - c[0]), d[0] - c[0])
            if height < mark[1]:
                of_step.append((mark[0], k + 1) if c[0] < mark[0] else (-mark[0], -k - 1))
        letters += [letter for x, letter in sorted(of_step)]
    return letters


def string(marks, way):
    letters = word(marks, way)
    k = 0
    while k + 1 < len(letters):
        if letters[k] == -letters[k + 1]:
            letters = letters[:k] + letters[k + 2:]
            k = max(k - 1, 0)
        else:
            k += 1
    return letters


def own_way(told):
    return [told["start"][0]] + list(told["course"]) + [told["finish"][0]]


def fare(told, name, bows):
    """how, early, the moment of the start's step, that of the finish's, the fraction, corrected."""
    m, marks = told["moment"], told["marks"]
    early = int(len(bows) > m and side(bows[m], told["start"]) > 0)
    starts = [k for k in range(m, len(bows) - 1) if over(told["start"], bows[k], bows[k + 1]) is not None]
    if not starts:
        return 1, early, -1, -1, Fraction(0), Fraction(0)
    for k in range(starts[0], len(bows) - 1):
        if touches(marks, bows[k:k + 2]):
            return 3, early, starts[0], -1, Fraction(0), Fraction(0)
        when = over(told["finish"], bows[k], bows[k + 1])
        way = [told["start"][0]] + list(bows[starts[0] + 1:k + 1]) + [told["finish"][0]]
        if when is not None and not touches(marks, way) and string(marks, way) == string(marks, own_way(told)):
            number = dict(told["handicaps"]).get(name, 1000)
            return 0, early, starts[0], k, when, (k - m + when) * 1000 / number
    return 2, early, starts[0], -1, Fraction(0), Fraction(0)


def of_fraction(part):
    return [part.numerator, part.denominator]


def fare_answer(found):
    return [0] + list(found[:4]) + of_fraction(found[4]) + of_fraction(found[5])


def place_answer(fares, i):
    if fares[i][0] != 0:
        return [-3]
    times = sorted(found[5] for found in fares if found[0] == 0)
    return [0, 1 + times.index(fares[i][5]), times.count(fares[i][5])]


def order_answer(fares):
    order = sorted((found[5], i) for i, found in enumerate(fares) if found[0] == 0)
    return [len(order)] + [i for time, i in order]


def before_answer(fares, i, j):
    if fares[i][0] != 0 or fares[j][0] != 0:
        return [-3]
    return [1 if fares[i][5] < fares[j][5] else 2 if fares[j][5] < fares[i][5] else 0]
