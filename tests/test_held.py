"""What a race and a log hold once their texts are read."""

import unittest

from racelogs.log import Log
from racelogs.race import Race
from racelogs.reading import fault_of
from tests.calls import GOOD_LOG, GOOD_RACE, as_bytes


class TestHeld(unittest.TestCase):
    def test_race(self):
        race = Race()
        self.assertIsNone(fault_of(race, as_bytes(GOOD_RACE)))
        self.assertEqual(race.start_line, ((0, 0), (100, 0)))
        self.assertEqual(race.start_moment, 5)
        self.assertEqual(race.finish_line, ((0, 500), (100, 500)))
        self.assertEqual(race.marks, [(50, 250), (300, 250)])
        self.assertEqual(race.course, [(200, 250), (400, 300)])
        self.assertEqual(race.handicaps, {"anna": 900, "bert": 1100, "carl": 1000})

    def test_log(self):
        log = Log()
        self.assertIsNone(fault_of(log, as_bytes(GOOD_LOG)))
        self.assertEqual(log.boats, ["anna", "bert"])
        self.assertEqual(log.winds, [(0, -5), (1, -5)])
        self.assertEqual(log.moments, [
            [((10, -10), (10, -14)), ((30, -10), (30, -14))],
            [((10, -5), (10, -9)), ((30, -4), (30, -8))],
            [((11, 0), (10, -4)), ((31, 2), (30, -2))],
        ])


if __name__ == "__main__":
    unittest.main()
