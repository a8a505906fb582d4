import unittest

from fallranks.values import is_numeral


class Numerals(unittest.TestCase):

    def test_numerals(self):
        for number in (*range(-1001, 1002), 10 ** 99, -(10 ** 99)):
            self.assertIs(is_numeral(str(number)), True)

    def test_what_is_none(self):
        for word in ("", "-", "-0", "00", "01", "-01", "+1", "--1", "1-", " 1", "1 ", "1.0", "1_0", "a", "1a", "\u00b2"):
            self.assertIs(is_numeral(word), False)
