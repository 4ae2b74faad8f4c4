"""Races and tracks by chance, on small grids, so that places meet lines, marks and one another often."""

from tests import fare_oracle
from tests.oracle import on_straight

NAMES = ["anna", "bert", "carl", "dora"]


def spot(chance, reach):
    return (chance.randint(-reach, reach), chance.randint(-reach, reach))


def some_line(chance, reach):
    while True:
        p, q = spot(chance, reach), spot(chance, reach)
        if p != q:
            return (p, q)


def some_marks(chance, reach, start, finish):
    marks = []
    wanted = chance.randint(1, 4)
    while len(marks) < wanted:
        mark = spot(chance, reach)
        if mark not in marks and not on_straight(mark, *start) and not on_straight(mark, *finish):
            marks.append(mark)
    return marks


def some_race(chance, reach):
    while True:
        told = {"start": some_line(chance, reach), "moment": chance.choice([0, 0, 1, 2, 3]),
                "finish": some_line(chance, reach)}
        told["marks"] = some_marks(chance, reach, told["start"], told["finish"])
        told["course"] = [spot(chance, reach) for k in range(chance.randint(1, 5))]
        told["handicaps"] = [
            (name, chance.choice([1, 500, 900, 1000, 2000, 9999]))
            for name in NAMES + ["nobody"] if chance.random() < 0.4]
        if not fare_oracle.touches(told["marks"], fare_oracle.own_way(told)):
            return told


def step_over(chance, reach, line):
    for tries in range(200):
        c, d = spot(chance, reach), spot(chance, reach)
        if fare_oracle.over(line, c, d) is not None:
            return [c, d]
    return [line[0], line[1]]


def some_track(chance, reach, told):
    track = [spot(chance, reach) for k in range(told["moment"])]
    if chance.random() < 0.3:
        track.append(spot(chance, reach))
    track += step_over(chance, reach, told["start"]) if chance.random() < 0.85 else [spot(chance, reach)]
    for point in told["course"] if chance.random() < 0.8 else []:
        if chance.random() < 0.3:
            track += [spot(chance, reach), track[-1]]
        track.append(point)
    for k in range(chance.randint(1, 3)):
        track += step_over(chance, reach, told["finish"])
        if chance.random() < 0.2:
            track += [track[-1], spot(chance, reach)]
    return track


def some_tracks(chance, reach, told):
    tracks = [some_track(chance, reach, told) for name in NAMES[:chance.randint(1, len(NAMES))]]
    if chance.random() < 0.2:
        tracks.append(list(tracks[0]))
        tracks = tracks[-len(NAMES):]
    # As long as the shortest, or the longest: a boat then stays where she is.
    if chance.random() < 0.3:
        shortest = min(len(track) for track in tracks)
        return [track[:shortest] for track in tracks]
    longest = max(len(track) for track in tracks)
    return [track + track[-1:] * (longest - len(track)) for track in tracks]


def scaled(told, tracks, by, to):
    """All places times by, and moved."""
    def moved(places):
        return [(x * by + to[0], y * by + to[1]) for x, y in places]

    larger = dict(told)
    for kind in ("start", "finish", "marks", "course"):
        larger[kind] = moved(told[kind])
    return larger, [moved(track) for track in tracks]
