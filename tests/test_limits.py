import unittest

from fallranks import limits


class Limits(unittest.TestCase):

    def test_each_limit(self):
        told = {
            "MOST_VARIABLES": 3, "MOST_PLACES": 3, "MOST_BRANCHES": 5, "MOST_TESTS": 3, "MOST_SAYINGS": 3,
            "MOST_NUMBER": 1000000, "MOST_STATES": 1000, "MOST_FORMS": 9, "MOST_CHANGES": 6,
        }
        for name, number in told.items():
            with self.subTest(name=name):
                self.assertEqual(getattr(limits, name), number)
                self.assertIs(type(getattr(limits, name)), int)
