"""Tests of point 102: the limits."""

import unittest

from probewright import limits

LIMITS = {
    "MOST_NAME": 12,
    "MOST_PINS": 4,
    "MOST_LINES": 400,
    "MOST_SOURCES": 40,
    "MOST_PATTERNS": 1000,
    "MOST_WIDTH": 64,
}


class Limits(unittest.TestCase):
    def test_values(self):
        for name, value in LIMITS.items():
            with self.subTest(name=name):
                self.assertEqual(getattr(limits, name), value)

    def test_they_are_integers(self):
        for name in LIMITS:
            with self.subTest(name=name):
                self.assertIs(type(getattr(limits, name)), int)

    def test_there_are_no_others(self):
        names = [name for name in vars(limits) if not name.startswith("_")]
        self.assertEqual(sorted(names), sorted(LIMITS))


if __name__ == "__main__":
    unittest.main()
