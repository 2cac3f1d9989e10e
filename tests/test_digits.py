"""Numbers of any number of digits, for the promises 5.3, 6.6 and 8.5."""

import unittest

from stagecut.digits import AT_ONCE, is_number, number_of, number_text

# Python itself has a limit for these, too, but none for this sum.
NINES = {many: sum(9 * 10 ** at for at in range(many)) for many in (1, 3, AT_ONCE, 4300, 4301, 5000, 9001)}


class Digits(unittest.TestCase):
    def test_there_and_back(self):
        for many, worth in NINES.items():
            self.assertEqual(number_of("9" * many), worth)
            self.assertTrue(number_text(worth) == "9" * many, many)
            self.assertTrue(number_text(worth + 1) == "1" + "0" * many, many)
            self.assertEqual(number_of("1" + "0" * many), worth + 1)

    def test_small_ones(self):
        for worth in [*range(1200), 4294967295, 10 ** 301 - 1, 10 ** 301, 10 ** 302, 10 ** 1000 - 1, 10 ** 1000]:
            self.assertEqual(number_text(worth), str(worth))
            self.assertEqual(number_of(str(worth)), worth)

    def test_zeros_inside(self):
        text = "7" + "0" * 2500 + "12" + "0" * 1999 + "3"
        self.assertTrue(number_text(number_of(text)) == text)

    def test_is_number(self):
        self.assertTrue(is_number("9" * 5000))
        self.assertFalse(is_number("0" + "9" * 5000))


if __name__ == "__main__":
    unittest.main()
