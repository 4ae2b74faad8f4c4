"""Many races and logs by chance: every answer held against tests/fare_oracle.py."""

import random
import unittest

from tests import fare_oracle
from tests.chances import NAMES, scaled, some_race, some_tracks
from tests.sailing import ORDER, before, fare, place, sailed

HOW_MANY = 1500


class TestAgainstTheWords(unittest.TestCase):
    def hold(self, told, tracks):
        boats = range(len(tracks))
        pairs = [(i, j) for i in boats for j in boats]
        calls = [fare(i) for i in boats] + [place(i) for i in boats] + [ORDER] + [before(i, j) for i, j in pairs]
        fares = [fare_oracle.fare(told, NAMES[i], tracks[i]) for i in boats]
        expected = [fare_oracle.fare_answer(found) for found in fares]
        expected += [fare_oracle.place_answer(fares, i) for i in boats]
        expected += [fare_oracle.order_answer(fares)]
        expected += [fare_oracle.before_answer(fares, i, j) for i, j in pairs]
        self.assertEqual(sailed(tracks, calls, names=NAMES[:len(tracks)], **told), expected, (told, tracks))
        return fares

    def hold_many(self, seed, reach, change):
        chance = random.Random(seed)
        seen = {}
        for k in range(HOW_MANY):
            told = some_race(chance, reach)
            told, tracks = change(chance, told, some_tracks(chance, reach, told))
            for found in self.hold(told, tracks):
                key = (found[0], bool(fare_oracle.string(told["marks"], fare_oracle.own_way(told))))
                seen[key] = seen.get(key, 0) + 1
        # Each way to fare must come often, by courses with a string and without.
        for how in range(4):
            for has_string in (False, True):
                self.assertGreater(seen.get((how, has_string), 0), HOW_MANY // 50, seen)

    def test_small(self):
        self.hold_many(1, 5, lambda chance, told, tracks: (told, tracks))

    def test_large(self):
        def enlarged(chance, told, tracks):
            return scaled(told, tracks, 80000, (chance.randint(-200000, 200000), chance.randint(-200000, 200000)))

        self.hold_many(2, 10, enlarged)


if __name__ == "__main__":
    unittest.main()
