import unittest

from tickshares import limits


class LimitsTest(unittest.TestCase):
    def test_each_limit(self):
        wanted = {
            "MOST_WORKS": 6,
            "MOST_HANDS": 6,
            "MOST_PERIOD": 16,
            "MOST_ROUND": 720,
            "MOST_COUNTS": 60,
            "MOST_LATES": 200,
            "MOST_LOG": 200,
            "MOST_RUN": 2000,
        }
        self.assertEqual({name: getattr(limits, name) for name in wanted}, wanted)
        for name in wanted:
            self.assertIs(type(getattr(limits, name)), int)
