"""Races and logs for the calls fare, place, order, before, told by places in the place of texts."""

from tests.calls import asked, lines, log, race

FARTHEST = 1048576
ORDER = [6]

# North of both lines is on the left of them; the mark lies to the east of both.
START = ((0, 0), (10, 0))
FINISH = ((0, 100), (10, 100))
MARKS = [(50, 50)]
COURSE = [(5, 50)]


def fare(i):
    return [4, i]


def place(i):
    return [5, i]


def before(i, j):
    return [7, i, j]


def numbers(*places):
    return " ".join("%d %d" % spot for spot in places)


def race_text(start=START, moment=0, finish=FINISH, marks=MARKS, course=COURSE, handicaps=()):
    return lines(
        "start %s %d" % (numbers(*start), moment),
        "finish " + numbers(*finish),
        *["mark " + numbers(mark) for mark in marks],
        "course " + numbers(*course),
        *["handicap %s %d" % handicap for handicap in handicaps])


def is_opposite(u, v):
    return u[0] * v[1] == u[1] * v[0] and u[0] * v[0] + u[1] * v[1] < 0


def next_heading(bow, heading):
    """A heading whose stern isn't out of range, and that isn't turned by just a half."""
    for turned in [heading, (0, 1), (1, 0), (0, -1), (-1, 0)]:
        stern = (bow[0] - turned[0], bow[1] - turned[1])
        if max(abs(stern[0]), abs(stern[1])) <= FARTHEST and not is_opposite(heading, turned):
            return turned
    raise ValueError("no heading")


def rows_at(tracks):
    headings = [(0, 1)] * len(tracks)
    rows = []
    for bows in zip(*tracks, strict=True):
        headings = [next_heading(bow, heading) for bow, heading in zip(bows, headings)]
        sterns = [(bow[0] - turned[0], bow[1] - turned[1]) for bow, turned in zip(bows, headings)]
        rows.append("at " + numbers(*[spot for pair in zip(bows, sterns) for spot in pair]))
    return rows


def log_text(*tracks, names=None):
    """A log of boats whose bows are at a track's places, moment by moment."""
    names = names or ["b%d" % i for i in range(len(tracks))]
    return lines(*["boat " + name for name in names], "wind 0 -5", *rows_at(tracks))


def sailed(tracks, calls, names=None, **told):
    """What is answered to the calls behind a race and a log."""
    answers = asked(race(race_text(**told)), log(log_text(*tracks, names=names)), *calls)
    if answers[:2] != [[0], [0]]:
        raise ValueError(answers[:2])
    return answers[2:]


def fare_of(*track, **told):
    return sailed([track], [fare(0)], **told)[0]


def finished(start, step, part, corrected, early=0):
    return [0, 0, early, start, step] + list(part) + list(corrected)


def not_started(early=0):
    return [0, 1, early, -1, -1, 0, 1, 0, 1]


def not_finished(start, early=0):
    return [0, 2, early, start, -1, 0, 1, 0, 1]


def touched(start, early=0):
    return [0, 3, early, start, -1, 0, 1, 0, 1]
