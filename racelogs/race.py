"""A race: its start line and finish line, its marks, its course and its handicaps."""

from racelogs.places import is_on_straight, way_touches
from racelogs.words import is_name, is_number, numbers_of, pair_of, places_of

LATEST_START = 4095
MOST_MARKS = 32
MOST_PLACES = 64
GREATEST_HANDICAP = 9999
MOST_HANDICAPS = 64


def line_told(words):
    numbers = numbers_of(words)
    if numbers is None or len(numbers) != 4:
        return None
    places = places_of(numbers)
    if places[0] == places[1]:
        return None
    return (places[0], places[1])


def start_told(words):
    line = line_told(words[:-1])
    if line is None or not is_number(words[-1]):
        return None
    moment = int(words[-1])
    if not 0 <= moment <= LATEST_START:
        return None
    return (line, moment)


def course_told(words):
    numbers = numbers_of(words)
    if numbers is None or len(numbers) % 2 != 0:
        return None
    if not 1 <= len(numbers) // 2 <= MOST_PLACES:
        return None
    return places_of(numbers)


def handicap_told(words):
    if len(words) != 2 or not is_name(words[0]) or not is_number(words[1]):
        return None
    number = int(words[1])
    if not 1 <= number <= GREATEST_HANDICAP:
        return None
    return (words[0], number)


# The start line, the finish line and the course are None until they are told.
class Race:
    def __init__(self):
        self.start_line = None
        self.start_moment = None
        self.finish_line = None
        self.marks = []
        self.course = None
        self.handicaps = {}

    def told_by(self, kind, words):
        if kind == "start":
            return start_told(words)
        if kind == "finish":
            return line_told(words)
        if kind == "mark":
            return pair_of(words)
        if kind == "course":
            return course_told(words)
        if kind == "handicap":
            return handicap_told(words)
        return None

    def kinds_that_stand(self):
        if self.start_line is None:
            return ("start",)
        if self.finish_line is None:
            return ("finish",)
        if len(self.marks) == 0:
            return ("mark",)
        if self.course is None:
            return ("mark", "course")
        return ("handicap",)

    # A log also asks what the line tells; a race needs its kind alone.
    def can_stand(self, kind, told):
        return kind in self.kinds_that_stand()

    def clashes(self, kind, told):
        if kind == "mark":
            return self.mark_clashes(told)
        if kind == "course":
            way = self.own_way(told)
            return any([way_touches(way, mark) for mark in self.marks])
        if kind == "handicap":
            return told[0] in self.handicaps
        return False

    def mark_clashes(self, mark):
        lines = (self.start_line, self.finish_line)
        return mark in self.marks or any([is_on_straight(mark, line[0], line[1]) for line in lines])

    def own_way(self, course):
        return [self.start_line[0]] + course + [self.finish_line[0]]

    def is_too_much(self, kind):
        if kind == "mark":
            return len(self.marks) == MOST_MARKS
        if kind == "handicap":
            return len(self.handicaps) == MOST_HANDICAPS
        return False

    def take(self, kind, told):
        if kind == "start":
            self.start_line = told[0]
            self.start_moment = told[1]
        elif kind == "finish":
            self.finish_line = told
        elif kind == "mark":
            self.marks.append(told)
        elif kind == "course":
            self.course = told
        else:
            self.handicaps[told[0]] = told[1]

    def is_whole(self):
        return self.course is not None
