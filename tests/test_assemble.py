"""Promises 13.1 to 13.4."""

import random
import unittest

from stagecut.assemble import assemble, listed, parse_code, parse_forms, print_code
from stagecut.errors import BadCharacter, BadCode, BadNumber, CutError, Unexpected

FORMS = parse_forms("rest = 0w8; set = 1w2, to:2, value:4; jump = 2w2, 0w2, to:4; both = one:4, 1w1, other:3;")


class Parsing(unittest.TestCase):
    def bad(self, read, text, row, column, error=Unexpected):
        with self.assertRaises(error) as caught:
            read(text)
        self.assertEqual((caught.exception.row, caught.exception.column), (row, column), text)

    def test_forms(self):
        self.assertEqual(parse_forms(""), ())
        self.assertEqual(parse_forms(" # nothing\n"), ())
        self.assertEqual(parse_forms("a = 5w8;"), (("a", (("lit", 5, 8),)),))
        self.assertEqual(parse_forms("a=b:1;c = d:32, 0w32 , e : 7;\na = b:2;"), (
            ("a", (("field", "b", 1),)), ("c", (("field", "d", 32), ("lit", 0, 32), ("field", "e", 7))),
            ("a", (("field", "b", 2),))))
        self.assertEqual(parse_forms("a = a:3, a:4;"), (("a", (("field", "a", 3), ("field", "a", 4))),))

    def test_wrong_forms(self):
        for text, column in (("a", 2), ("a =", 4), ("a = ;", 5), ("a = b", 6), ("a = b;", 6), ("a = b:", 7),
                             ("a = b:3", 8), ("a = b:3,", 9), ("a = b:3,;", 9), ("a = b:3 c:4;", 9), ("= b:3;", 1),
                             ("a b:3;", 3), ("a = 3;", 5), ("a = b:c;", 7), ("a = b:3w4;", 7), ("reg = b:3;", 1),
                             ("a = reg:3;", 5), ("a := 3w4;", 3), ("a == 3w4;", 3), ("a = b:3; ;", 10), ("3 = b:3;", 1),
                             ("a = 3w4 b;", 9), ("a = b:=3;", 6), ("a = (b:3);", 5), ("a = b:3;x", 10)):
            self.bad(parse_forms, text, 1, column)

    def test_widths(self):
        for number in (0, 33, 34, 100, 4294967295):
            self.bad(parse_forms, f"a = b:{number};", 1, 7)
            self.bad(parse_forms, f"a = b:3,\n  c: {number};", 2, 6)
        self.bad(parse_forms, "a = b:33", 1, 7)
        self.bad(parse_forms, "a = b:0 ?", 1, 7)

    def test_tokens_of_forms(self):
        for text, row, column, error in (("a = b:3;\n%", 2, 1, BadCharacter), ("a = 5w0;", 1, 5, BadNumber),
                                         ("a = 8w3;", 1, 5, BadNumber), ("a = b:03;", 1, 7, BadNumber),
                                         ("a = b:4294967296;", 1, 7, BadNumber), ("a = b:3x;", 1, 7, BadNumber)):
            self.bad(parse_forms, text, row, column, error)

    def test_codes(self):
        self.assertEqual(parse_code(""), ())
        self.assertEqual(parse_code("go;"), (((), "go", ()),))
        self.assertEqual(parse_code("a: b : go 1 x 0 a y;\n# c\ngo;go go;"), (
            (("a", "b"), "go", (1, "x", 0, "a", "y")), ((), "go", ()), ((), "go", ("go",))))
        self.assertEqual(parse_code("a: a: a a 4294967295;"), ((("a", "a"), "a", ("a", 4294967295)),))

    def test_wrong_codes(self):
        for text, column in ((";", 1), ("a", 2), ("a:", 3), ("a: ;", 4), ("1 a;", 1), ("a 1", 4), ("a 5w8;", 3),
                             ("a 1, 2;", 4), ("a: 1 b;", 4), ("a b: c;", 4), ("reg 1;", 1), ("a reg;", 3), ("a:= 1;", 2),
                             ("a: reg;", 4), ("a; ;", 4), ("a 1; b", 7), (": a;", 1), ("a = 1;", 3), ("a -1;", 3)):
            self.bad(parse_code, text, 1, column)

    def test_tokens_of_codes(self):
        for text, row, column, error in (("a 1;\n  $", 2, 3, BadCharacter), ("a 01;", 1, 3, BadNumber),
                                         ("a 4294967296;", 1, 3, BadNumber), ("a 3w1;", 1, 3, BadNumber)):
            self.bad(parse_code, text, row, column, error)


class Assembling(unittest.TestCase):
    def words(self, text, bits=3, forms=FORMS, width=8):
        found = assemble(forms, parse_code(text), bits, width)
        self.assertIs(type(found), tuple)
        self.assertTrue(all(type(word) is int for word in found))
        self.assertEqual(len(found), 2 ** bits)
        return found

    def bad(self, text, statement, word, bits=3, forms=FORMS, width=8):
        with self.assertRaises(BadCode) as caught:
            assemble(forms, parse_code(text), bits, width)
        self.assertEqual((caught.exception.statement, caught.exception.word), (statement, word), text)

    def test_error(self):
        self.assertTrue(issubclass(BadCode, CutError))
        self.assertEqual((BadCode(3, "size").statement, BadCode(3, "size").word), (3, "size"))

    def test_small(self):
        self.assertEqual(self.words(""), (0,) * 8)
        self.assertEqual(self.words("set 2 5; rest; both 9 6; jump 15;"), (0x65, 0, 0x9e, 0x8f, 0, 0, 0, 0))
        self.assertEqual(self.words("set 3 15; set 0 0;", 1), (0x7f, 0x40))

    def test_labels(self):
        self.assertEqual(self.words("jump end; a: rest; jump a; end: b: jump b;"), (0x83, 0, 0x81, 0x83, 0, 0, 0, 0))
        self.assertEqual(self.words("set: rest: set rest set; jump jump; jump: rest;")[:2], (0x40, 0x82))

    def test_widths(self):
        forms = parse_forms("a = x:32; b = x:1, y:31; c = 4294967295w32;")
        text = "a 4294967295; b 1 0; b 0 2147483647; c; a 0;"
        self.assertEqual(self.words(text, 3, forms, 32),
                         (4294967295, 2147483648, 2147483647, 4294967295, 0, 0, 0, 0))
        self.assertEqual(self.words("a 1; a 0;", 1, parse_forms("a = x:1;"), 1), (1, 0))

    def test_just_full_and_too_long(self):
        for bits in range(1, 7):
            self.assertEqual(self.words("jump 7;" * 2 ** bits, bits), (0x87,) * 2 ** bits)
            self.bad("jump 7;" * (2 ** bits + 1), 2 ** bits + 1, "long", bits)
            self.bad("jump 7;" * (2 ** bits + 9), 2 ** bits + 1, "long", bits)
            self.bad("jump 7;" * (2 ** bits + 9) + "jump;", 2 ** bits + 10, "count", bits)
        # A label behind the words.
        self.bad("rest; rest; a: rest; jump a;", 3, "long", 1)

    def test_twice(self):
        self.bad("a: rest; a: rest;", 2, "twice")
        self.bad("rest; a: b: a: rest;", 2, "twice")
        # Ahead of all else.
        self.bad("what; set; a: rest; a: rest;", 4, "twice", 1)
        self.bad("a: rest; b: rest; b: rest; a: rest;", 3, "twice", 1)

    def test_form(self):
        self.bad("rest; what 1;", 2, "form")
        self.bad("what x;", 1, "form", forms=())
        self.bad("what; set;", 1, "form")
        self.bad("set; what;", 1, "count")

    def test_width(self):
        forms = parse_forms("a = x:3, 1w4; b = y:8; c = 1w32, y:32;")
        self.bad("b 1; a 1;", 2, "width", forms=forms)
        self.bad("a;", 1, "width", forms=forms)
        self.bad("a what;", 1, "width", forms=forms)
        self.bad("c 1;", 1, "width", forms=forms, width=32)
        self.assertEqual(self.words("a 5;", 1, forms, 7), (0x51, 0))

    def test_count(self):
        for text in ("rest 1;", "set;", "set 1;", "set 1 2 3;", "jump;", "jump 1 2;", "set a;", "set a b c;"):
            self.bad("rest;" + text, 2, "count")

    def test_label(self):
        self.bad("jump a;", 1, "label")
        self.bad("a: jump a; jump b;", 2, "label")
        self.bad("set a 99;", 1, "label")
        self.bad("set 99 a;", 1, "size")
        self.bad("jump jump;", 1, "label")

    def test_size(self):
        self.bad("rest; set 4 0;", 2, "size")
        self.bad("set 3 16;", 1, "size")
        self.bad("set 3 16; what;", 1, "size")
        self.bad("jump 4294967295;", 1, "size")

    def test_labels_that_do_not_fit(self):
        self.assertEqual(self.words("rest; rest; rest; a: rest; set a a;")[4], 0x40 + 0x33)
        self.bad("rest; rest; rest; rest; a: rest; set a a;", 6, "size")
        self.bad("set a 0; rest; rest; rest; a: rest;", 1, "size")
        self.assertEqual(self.words("rest; rest; rest; rest; a: rest; set 0 a;")[5], 0x44)

    def test_two_forms_with_one_name(self):
        forms = parse_forms("a = 1w4, x:4; a = 2w4, x:2, y:2; b = x:8; a = x:8;")
        self.assertEqual(self.words("a 7; b 7;", 1, forms), (0x17, 7))
        self.bad("a 1 2;", 1, "count", forms=forms)
        forms = parse_forms("a = 1w4, x:3; a = 2w4, x:4;")
        self.bad("a 7;", 1, "width", forms=forms)
        self.assertEqual(self.words("a 7;", 1, forms, 7), (0xf, 0))

    def test_fields_with_one_name(self):
        self.assertEqual(self.words("a 1 2;", 1, parse_forms("a = x:4, x:4;")), (0x12, 0))

    def test_arguments_stay(self):
        forms = list(FORMS)
        statements = list(parse_code("a: set 1 a;"))
        kept = list(forms), list(statements)
        assemble(forms, statements, 2, 8)
        self.assertEqual((forms, statements), kept)


class Listing(unittest.TestCase):
    def test_small(self):
        found = listed(FORMS, (0, 0x65, 0x9e, 0x8f, 0x90), 8)
        self.assertEqual(found, (((), "rest", ()), ((), "set", (2, 5)), ((), "both", (9, 6)), ((), "jump", (15,)),
                                 ((), "", (0x90,))))
        self.assertEqual(listed(FORMS, (), 8), ())
        self.assertEqual(listed((), (7, 0), 8), (((), "", (7,)), ((), "", (0,))))

    def test_only_forms_of_the_width(self):
        forms = parse_forms("a = 0w4, x:3; b = 0w4, x:4; c = 0w4, x:5; d = x:8;")
        self.assertEqual(listed(forms, (5, 0x15), 8), (((), "b", (5,)), ((), "d", (0x15,))))
        self.assertEqual(listed(forms, (5, 0x15), 7), (((), "a", (5,)), ((), "", (0x15,))))
        self.assertEqual(listed(forms, (0x15, 0x25), 9), (((), "c", (0x15,)), ((), "", (0x25,))))

    def test_the_first_one(self):
        forms = parse_forms("a = x:4, 3w4; b = 3w4, x:4; c = x:8; b = 5w8;")
        self.assertEqual(listed(forms, (0x33, 0x34, 0x5, 0x43), 8),
                         (((), "a", (3,)), ((), "b", (4,)), ((), "c", (5,)), ((), "a", (4,))))

    def test_back_to_words(self):
        chance = random.Random(4)
        forms = parse_forms("a = 5w3, x:5, 1w1, y:3; b = 1w1, x:11; c = 2w3, x:9; rest = 0w12;")
        words = tuple(chance.getrandbits(12) for _ in range(64))
        found = listed(forms, words, 12)
        self.assertEqual({statement[1] for statement in found}, {"a", "b", "c", ""})
        named = tuple(word for word, statement in zip(words, found) if statement[1])
        statements = tuple(statement for statement in found if statement[1])
        self.assertEqual(assemble(forms, statements, 6, 12)[:len(named)], named)
        self.assertEqual(parse_code(print_code(statements)), statements)
        self.assertTrue(all(args == (word,) for word, (_, name, args) in zip(words, found) if not name))


class Printing(unittest.TestCase):
    def test_small(self):
        text = "a: b: go 1 x 0;\nrest;\nc: go go;\n"
        self.assertEqual(print_code(parse_code(text)), text)
        self.assertEqual(print_code(((("a", "b"), "go", (1, "x", 0)), ((), "rest", ()))), "a: b: go 1 x 0;\nrest;\n")
        self.assertEqual(print_code(()), "")

    def test_made_ones(self):
        chance = random.Random(9)
        for _ in range(100):
            statements = tuple(
                (tuple(chance.choice("abc") for _ in range(chance.randint(0, 2))), chance.choice(("go", "x_1")),
                 tuple(chance.choice((0, 7, 4294967295, "a", "Zz9")) for _ in range(chance.randint(0, 3))))
                for _ in range(chance.randint(0, 5)))
            self.assertEqual(parse_code(print_code(statements)), statements)


if __name__ == "__main__":
    unittest.main()
