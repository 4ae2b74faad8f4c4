"""The result of a race: how every boat of a log fared, and the places of those that finished."""

from racelogs.fares import Judge
from racelogs.ratios import is_less


def bows_of(log, boat):
    return [moment[boat][0] for moment in log.moments]


class Result:
    def __init__(self, race, log):
        judge = Judge(race)
        self.fares = [judge.fare_of(log.boats[i], bows_of(log, i)) for i in range(len(log.boats))]
        self.finished = [i for i in range(len(self.fares)) if self.fares[i].has_finished()]

    def has_less(self, i, j):
        return is_less(self.fares[i].corrected, self.fares[j].corrected)

    def place_of(self, i):
        return 1 + len([j for j in self.finished if self.has_less(j, i)])

    def shared_by(self, i):
        return len([j for j in self.finished if self.fares[j].corrected == self.fares[i].corrected])

    def in_order(self):
        # Boats of one place stay in the order of their numbers.
        return sorted(self.finished, key=self.place_of)
