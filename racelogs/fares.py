"""How a boat fared in a race, told from where her bow was at each moment."""

from racelogs.crossing import how_far_left, when_over
from racelogs.ratios import lowest
from racelogs.ways import Way, hanging_lines, step_touches

FINISHED = 0
NOT_STARTED = 1
NOT_FINISHED = 2
TOUCHED = 3
USUAL_HANDICAP = 1000


class Fare:
    def __init__(self, is_early, start_step):
        self.how = NOT_STARTED if start_step < 0 else NOT_FINISHED
        self.is_early = is_early
        self.start_step = start_step
        self.finish_step = -1
        self.finish_part = (0, 1)
        self.corrected = (0, 1)

    def has_finished(self):
        return self.how == FINISHED

    def as_numbers(self):
        early = 1 if self.is_early else 0
        told = [self.how, early, self.start_step, self.finish_step]
        return told + list(self.finish_part) + list(self.corrected)


# What is the same for all boats of a race is reckoned once, here.
class Judge:
    def __init__(self, race):
        self.judged = race
        self.hanging = hanging_lines(race.marks)
        self.own_string = self.string_of(race.own_way(race.course))

    def string_of(self, places):
        way = Way(self.hanging, places[0])
        for place in places[1:]:
            way.go_to(place)
        return way.string

    def is_too_early(self, bows):
        moment = self.judged.start_moment
        return moment < len(bows) and how_far_left(bows[moment], self.judged.start_line) > 0

    def step_of_start(self, bows):
        for step in range(self.judged.start_moment, len(bows) - 1):
            if when_over(self.judged.start_line, bows[step], bows[step + 1]) is not None:
                return step
        return -1

    def has_sailed_the_course(self, way):
        whole = way.with_end(self.judged.finish_line[0])
        return whole.is_free and whole.string == self.own_string

    def follow(self, fare, bows):
        way = Way(self.hanging, self.judged.start_line[0])
        for step in range(fare.start_step, len(bows) - 1):
            if step_touches(self.hanging, bows[step], bows[step + 1]):
                fare.how = TOUCHED
                return
            part = when_over(self.judged.finish_line, bows[step], bows[step + 1])
            if part is not None and self.has_sailed_the_course(way):
                fare.how = FINISHED
                fare.finish_step = step
                fare.finish_part = part
                return
            way.go_to(bows[step + 1])

    def corrected_time(self, fare, name):
        part = fare.finish_part
        elapsed = (fare.finish_step - self.judged.start_moment) * part[1] + part[0]
        handicap = self.judged.handicaps.get(name, USUAL_HANDICAP)
        return lowest(elapsed * 1000, part[1] * handicap)

    def fare_of(self, name, bows):
        fare = Fare(self.is_too_early(bows), self.step_of_start(bows))
        if fare.how == NOT_FINISHED:
            self.follow(fare, bows)
        if fare.has_finished():
            fare.corrected = self.corrected_time(fare, name)
        return fare
