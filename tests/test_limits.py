"""The interface, stairwright/limits.py."""

import unittest

from stairwright import limits

TOLD = {
    "MOST_SETS": 3,
    "MOST_ELEMENTS": 4,
    "MOST_NUM": 15,
    "MOST_PARTS": 600,
    "MOST_DEEP": 30,
    "MOST_MODELS": 4,
    "MOST_VARIABLES": 6,
    "MOST_INVARIANTS": 8,
    "MOST_DEEDS": 6,
    "MOST_SPLITS": 20000,
}


class LimitsTest(unittest.TestCase):
    def test_each_name_has_its_number(self):
        for name, number in TOLD.items():
            with self.subTest(name):
                self.assertIs(type(getattr(limits, name)), int)
                self.assertEqual(getattr(limits, name), number)


if __name__ == "__main__":
    unittest.main()
