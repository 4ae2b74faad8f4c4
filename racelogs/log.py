"""A log: its boats, its winds, and where each boat was at each moment."""

from racelogs.places import is_turned_by_half, vector
from racelogs.words import is_name, numbers_of, pair_of, places_of

MOST_BOATS = 64
MOST_MOMENTS = 4096
MOST_WINDS = 4096
NUMBERS_OF_A_BOAT = 4


def boat_told(words):
    if len(words) == 1 and is_name(words[0]):
        return words[0]
    return None


def moment_told(words):
    numbers = numbers_of(words)
    if numbers is None or len(numbers) % NUMBERS_OF_A_BOAT != 0:
        return None
    if not 1 <= len(numbers) // NUMBERS_OF_A_BOAT <= MOST_BOATS:
        return None
    places = places_of(numbers)
    return [(places[k], places[k + 1]) for k in range(0, len(places), 2)]


def heading(bow_and_stern):
    return vector(bow_and_stern[1], bow_and_stern[0])


# A moment is a list with a pair for each boat, her bow and her stern.
class Log:
    def __init__(self):
        self.boats = []
        self.winds = []
        self.moments = []

    def told_by(self, kind, words):
        if kind == "boat":
            return boat_told(words)
        if kind == "wind":
            return pair_of(words)
        if kind == "at":
            return moment_told(words)
        return None

    def can_stand(self, kind, told):
        if kind == "boat":
            # No moment stands without a wind before it, so the winds tell of both.
            return len(self.winds) == 0
        if kind == "wind":
            return len(self.boats) > 0
        return len(self.winds) > 0 and len(told) == len(self.boats)

    def clashes(self, kind, told):
        if kind == "boat":
            return told in self.boats
        if kind == "wind":
            return told == (0, 0) or self.winds[-1:] == [told]
        return self.moment_clashes(told)

    def moment_clashes(self, moment):
        headings = [heading(bow_and_stern) for bow_and_stern in moment]
        if (0, 0) in headings:
            return True
        if len(self.moments) == 0:
            return False
        earlier = [heading(bow_and_stern) for bow_and_stern in self.moments[-1]]
        return any([is_turned_by_half(earlier[i], headings[i]) for i in range(len(headings))])

    def is_too_much(self, kind):
        if kind == "boat":
            return len(self.boats) == MOST_BOATS
        if kind == "wind":
            return len(self.winds) == MOST_WINDS
        return len(self.moments) == MOST_MOMENTS

    def take(self, kind, told):
        if kind == "boat":
            self.boats.append(told)
        elif kind == "wind":
            self.winds.append(told)
        else:
            self.moments.append(told)

    def is_whole(self):
        return True
