"""The desk: it holds a race and a log, and answers calls."""

from racelogs.log import Log
from racelogs.race import Race
from racelogs.reading import fault_of

RACE = 0
LOG = 1
MORE = 2
SIZES = 3
MOST_BYTES = 65536


class UnknownCall(ValueError):
    pass


def answer_to_text(sheet, text):
    if len(text) > MOST_BYTES:
        return [-2]
    fault = fault_of(sheet, text)
    if fault is None:
        return [0]
    return [-6, fault[0], fault[1]]


class Desk:
    def __init__(self):
        self.held_race = None
        self.held_log = Log()
        self.log_text = []

    def race(self, text):
        # A new one is read, so that a refusal leaves the held one as it was.
        sheet = Race()
        answer = answer_to_text(sheet, text)
        if answer == [0]:
            self.held_race = sheet
        return answer

    def log(self, text):
        sheet = Log()
        answer = answer_to_text(sheet, text)
        if answer == [0]:
            self.held_log = sheet
            self.log_text = text
        return answer

    def more(self, text):
        return self.log(self.log_text + text)

    def sizes(self):
        if self.held_race is None:
            return [-5]
        race = self.held_race
        log = self.held_log
        return [0, len(race.marks), len(race.course), len(race.handicaps), len(log.boats), len(log.moments)]

    def answer(self, call):
        if call[0] == RACE:
            return self.race(call[2:])
        if call[0] == LOG:
            return self.log(call[2:])
        if call[0] == MORE:
            return self.more(call[2:])
        return self.sizes()


def end_of_call(calls, first):
    if calls[first] in (RACE, LOG, MORE):
        return first + 2 + calls[first + 1]
    if calls[first] == SIZES:
        return first + 1
    raise UnknownCall("no such call")


def answers(calls):
    desk = Desk()
    given = []
    first = 0
    while first < len(calls):
        end = end_of_call(calls, first)
        answer = desk.answer(calls[first:end])
        given.append(len(answer))
        given.extend(answer)
        first = end
    return given
