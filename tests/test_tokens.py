"""Promises 1.1 to 1.3, and 0.4 for tokens."""

import unittest

from stagecut.errors import BadCharacter, BadNumber, TextError
from stagecut.tokens import tokens

KEYWORDS = "machine reg file rom at let guess when wide part join".split()
SIGNS = ":= << >> == : ; , ( ) [ ] = + - * & | ^ ~ < ?".split()


class Kinds(unittest.TestCase):
    def one(self, text):
        found = tokens(text)
        self.assertEqual(len(found), 2, text)
        return found[0]

    def test_keywords(self):
        for word in KEYWORDS:
            self.assertEqual(self.one(word), ("keyword", word, 1, 1))
            self.assertEqual(self.one(word + "_"), ("name", word + "_", 1, 1))
            self.assertEqual(self.one(word.upper()), ("name", word.upper(), 1, 1))

    def test_names(self):
        for word in ("a", "Z", "a_", "aZ09_b", "w8", "regs", "x5w8", "machine2"):
            self.assertEqual(self.one(word), ("name", word, 1, 1))

    def test_signs(self):
        for sign in SIGNS:
            self.assertEqual(self.one(sign), ("sign", sign, 1, 1))

    def test_longest_sign_comes_first(self):
        def signs(text):
            return [(token[1], token[3]) for token in tokens(text)[:-1]]
        self.assertEqual(signs(":=="), [(":=", 1), ("=", 3)])
        self.assertEqual(signs("==="), [("==", 1), ("=", 3)])
        self.assertEqual(signs("===="), [("==", 1), ("==", 3)])
        self.assertEqual(signs("<<<"), [("<<", 1), ("<", 3)])
        self.assertEqual(signs("<="), [("<", 1), ("=", 2)])
        self.assertEqual(signs("= ="), [("=", 1), ("=", 3)])
        self.assertEqual(signs(": ="), [(":", 1), ("=", 3)])
        self.assertEqual(signs("< <"), [("<", 1), ("<", 3)])
        self.assertEqual(signs("~~"), [("~", 1), ("~", 2)])
        self.assertEqual(signs(">>==:=<<"), [(">>", 1), ("==", 3), (":=", 5), ("<<", 7)])

    def test_tokens_side_by_side(self):
        self.assertEqual(tokens("a:=5w8+b[12]"), [
            ("name", "a", 1, 1), ("sign", ":=", 1, 2), ("literal", (5, 8), 1, 4), ("sign", "+", 1, 7),
            ("name", "b", 1, 8), ("sign", "[", 1, 9), ("number", 12, 1, 10), ("sign", "]", 1, 12),
            ("end", "", 1, 13),
        ])


class Places(unittest.TestCase):
    def test_rows_and_columns(self):
        self.assertEqual(tokens("reg a 8;\n  at\n\n5w8"), [
            ("keyword", "reg", 1, 1), ("name", "a", 1, 5), ("number", 8, 1, 7), ("sign", ";", 1, 8),
            ("keyword", "at", 2, 3), ("literal", (5, 8), 4, 1), ("end", "", 4, 4),
        ])

    def test_end(self):
        for text, place in (
            ("", (1, 1)), (" ", (1, 2)), ("\n", (2, 1)), ("a", (1, 2)), ("a\n", (2, 1)), ("a\n  ", (2, 3)),
            ("# one", (1, 6)), ("#", (1, 2)), ("a # b\n", (2, 1)), ("\n\n\n", (4, 1)),
        ):
            self.assertEqual(tokens(text)[-1], ("end", "") + place, repr(text))

    def test_remarks(self):
        self.assertEqual(tokens("a#b c\nd # e"), [("name", "a", 1, 1), ("name", "d", 2, 1), ("end", "", 2, 6)])
        self.assertEqual(tokens("# \t$ 00 \xe9 #\n#\n a"), [("name", "a", 3, 2), ("end", "", 3, 3)])
        self.assertEqual(tokens("ab#\ncd"), [("name", "ab", 1, 1), ("name", "cd", 2, 1), ("end", "", 2, 3)])

    def test_a_new_list_each_time(self):
        found = tokens("a")
        found.clear()
        self.assertEqual(tokens("a"), [("name", "a", 1, 1), ("end", "", 1, 2)])


class Wrong(unittest.TestCase):
    def wrong(self, error, text, row, column):
        with self.assertRaises(TextError) as caught:
            tokens(text)
        self.assertIs(type(caught.exception), error, text)
        self.assertEqual((caught.exception.row, caught.exception.column), (row, column), text)

    def test_characters(self):
        for sign in "\t\r\f\v\0>!\"$%'./@\\_`{}\x7f\xa0\xe9\xdf\u03b1\u0663\xb2\u2160\U0001d7d8":
            self.wrong(BadCharacter, sign, 1, 1)
            self.wrong(BadCharacter, "a\n b" + " " + sign, 2, 4)
        self.wrong(BadCharacter, "ab\xe9", 1, 3)
        self.wrong(BadCharacter, "12\xe9", 1, 3)
        self.wrong(BadCharacter, "12\u0663", 1, 3)
        self.wrong(BadCharacter, ">>>", 1, 3)
        self.wrong(BadCharacter, "a\tb", 1, 2)

    def test_the_first_one_is_told(self):
        self.wrong(BadCharacter, "\t 00", 1, 1)
        self.wrong(BadNumber, "00 \t", 1, 1)
        self.wrong(BadNumber, "a\n 5x $", 2, 2)
        self.wrong(BadCharacter, "a\n $ 5x", 2, 2)
        self.wrong(BadNumber, "00\t", 1, 1)

    def test_numbers(self):
        for text in ("00", "01", "007", "12345678901", "10000000000", "4294967296", "9999999999", "5x", "5_", "5_0",
                     "1a", "0x1", "1W2", "0_"):
            self.wrong(BadNumber, text, 1, 1)
            self.wrong(BadNumber, "a " + text + ";", 1, 3)

    def test_literals(self):
        for text in ("5w", "5w08", "05w8", "00w1", "5w8a", "5w8_", "5ww8", "5w8w8", "1w0", "0w0", "0w33", "0w100",
                     "2w1", "256w8", "4w2", "5wx", "5x8", "0w00", "0w01", "0w12345678901", "12345678901w32",
                     "4294967296w32", "0w4294967296"):
            self.wrong(BadNumber, text, 1, 1)

    def test_bounds_that_hold(self):
        for text, worth in (("0", 0), ("1", 1), ("10", 10), ("4294967295", 4294967295), ("1234567890", 1234567890)):
            self.assertEqual(tokens(text)[0], ("number", worth, 1, 1))
        for text, worth in (("0w1", (0, 1)), ("1w1", (1, 1)), ("255w8", (255, 8)), ("0w32", (0, 32)),
                            ("4294967295w32", (4294967295, 32)), ("3w2", (3, 2)), ("2147483647w31", (2147483647, 31))):
            self.assertEqual(tokens(text)[0], ("literal", worth, 1, 1))
        self.wrong(BadNumber, "2147483648w31", 1, 1)


if __name__ == "__main__":
    unittest.main()
