import unittest

from fallranks.values import are_integers, is_numeral, value_at, weighed
from tests.samples import odd_values


class Numerals(unittest.TestCase):

    def test_numerals(self):
        for number in (*range(-1001, 1002), 10 ** 99, -(10 ** 99)):
            self.assertIs(is_numeral(str(number)), True)

    def test_what_is_none(self):
        for word in ("", "-", "-0", "00", "01", "-01", "+1", "--1", "1-", " 1", "1 ", "1.0", "1_0", "a", "1a", "\u00b2"):
            self.assertIs(is_numeral(word), False)


class Rows(unittest.TestCase):

    def test_integers(self):
        for value in ((), (0,), (1, -1), (10 ** 40, 0, -10 ** 40)):
            self.assertIs(are_integers(value, len(value)), True)
            self.assertIs(are_integers(value, len(value) + 1), False)
        for wrong in (*odd_values(), "", "1", [1]):
            self.assertIs(are_integers(wrong, 1), False)
            self.assertIs(are_integers((1, wrong), 2), False)

    def test_values(self):
        self.assertEqual([weighed((1, 2, 3), (4, 5, 6)), weighed((1, 2, 3), [4, 5, 0]), weighed((7,), (-2,))],
                         [32, 14, -14])
        self.assertEqual([value_at((2, 3), (5,)), value_at((1, 2, 3, 4), (10 ** 40, 0, -1))], [13, 10 ** 40 + 1])
