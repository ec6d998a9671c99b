import unittest

from formworld import limits


class LimitsTest(unittest.TestCase):

    def test_values(self):
        told = {
            "MOST_SIZE": 1000000000000, "MOST_SMALL": 1000, "MOST_PLACED": 100, "MOST_UNKNOWNS": 5,
            "LEAST_DISCRIMINANT": -100000, "MOST_DISCRIMINANT": 1000, "MOST_NUMBER": 1000, "MOST_LOOKS": 20,
        }
        for name, number in told.items():
            self.assertIs(type(getattr(limits, name)), int)
            self.assertEqual(getattr(limits, name), number, name)
