"""The desk: it holds a race and a log, and answers calls."""

from racelogs.log import Log
from racelogs.race import Race
from racelogs.reading import fault_of
from racelogs.result import Result

RACE = 0
LOG = 1
MORE = 2
SIZES = 3
FARE = 4
PLACE = 5
ORDER = 6
BEFORE = 7
MOST_BYTES = 65536


class UnknownCall(ValueError):
    pass


def answer_to_text(sheet, text):
    if len(text) > MOST_BYTES:
        return [-2]
    fault = fault_of(sheet, text)
    if fault is None:
        return [0]
    return [-6, fault[0], fault[1]]


class Desk:
    def __init__(self):
        self.held_race = None
        self.held_log = Log()
        self.log_text = []
        # The result is reckoned when it's first asked for, and again when the race or the log is another.
        self.known_result = None

    def race(self, text):
        # A new one is read, so that a refusal leaves the held one as it was.
        sheet = Race()
        answer = answer_to_text(sheet, text)
        if answer == [0]:
            self.held_race = sheet
            self.known_result = None
        return answer

    def log(self, text):
        sheet = Log()
        answer = answer_to_text(sheet, text)
        if answer == [0]:
            self.held_log = sheet
            self.log_text = text
            self.known_result = None
        return answer

    def more(self, text):
        return self.log(self.log_text + text)

    def sizes(self):
        if self.held_race is None:
            return [-5]
        race = self.held_race
        log = self.held_log
        return [0, len(race.marks), len(race.course), len(race.handicaps), len(log.boats), len(log.moments)]

    def result(self):
        if self.known_result is None:
            self.known_result = Result(self.held_race, self.held_log)
        return self.known_result

    def refusal_of_boats(self, boats):
        if self.held_race is None:
            return [-5]
        if max(boats) >= len(self.held_log.boats):
            return [-4]
        return None

    def refusal_of_places(self, boats):
        refusal = self.refusal_of_boats(boats)
        if refusal is None and not all([self.result().fares[i].has_finished() for i in boats]):
            return [-3]
        return refusal

    def fare(self, i):
        refusal = self.refusal_of_boats([i])
        if refusal is not None:
            return refusal
        return [0] + self.result().fares[i].as_numbers()

    def place(self, i):
        refusal = self.refusal_of_places([i])
        if refusal is not None:
            return refusal
        return [0, self.result().place_of(i), self.result().shared_by(i)]

    def order(self):
        if self.held_race is None:
            return [-5]
        boats = self.result().in_order()
        return [len(boats)] + boats

    def before(self, i, j):
        refusal = self.refusal_of_places([i, j])
        if refusal is not None:
            return refusal
        if self.result().has_less(i, j):
            return [1]
        return [2] if self.result().has_less(j, i) else [0]

    def answer_of_texts(self, call):
        if call[0] == RACE:
            return self.race(call[2:])
        if call[0] == LOG:
            return self.log(call[2:])
        return self.more(call[2:])

    def answer(self, call):
        if call[0] in (RACE, LOG, MORE):
            return self.answer_of_texts(call)
        if call[0] == SIZES:
            return self.sizes()
        if call[0] == FARE:
            return self.fare(call[1])
        if call[0] == PLACE:
            return self.place(call[1])
        if call[0] == ORDER:
            return self.order()
        return self.before(call[1], call[2])


def end_of_call(calls, first):
    if calls[first] in (RACE, LOG, MORE):
        return first + 2 + calls[first + 1]
    if calls[first] in (SIZES, ORDER):
        return first + 1
    if calls[first] in (FARE, PLACE):
        return first + 2
    if calls[first] == BEFORE:
        return first + 3
    raise UnknownCall("no such call")


def answers(calls):
    desk = Desk()
    given = []
    first = 0
    while first < len(calls):
        end = end_of_call(calls, first)
        answer = desk.answer(calls[first:end])
        given.append(len(answer))
        given.extend(answer)
        first = end
    return given
