"""Promises 1.4 and 1.5."""

import unittest

from grammar import first_wrong
from stagecut.errors import BadCharacter, BadNumber, TextError, Unexpected
from stagecut.parser import parse, parse_expr
from stagecut.tokens import tokens

A = ("name", "a")
B = ("name", "b")
C = ("name", "c")
D = ("name", "d")

WHOLE = """machine m
reg a 8;
file f 2 8;
rom c 3 5;
at 0:
  let x = a;
  guess a = x;
at 1:
  f[x] := a when b;
  f[x] := a;
at 2:
  a := x when b;
  a := x;
"""

LONG = "a ? b | c ^ d & e == f << g + h * ~i[j] : (k < l ? wide(m, 8) : part(n, 2, 3)) - join(o, 5w8) >> p ? q : r"


def token_text(token):
    return f"{token[1][0]}w{token[1][1]}" if token[0] == "literal" else str(token[1])


def op(sign, one, other):
    return ("op", sign, one, other)


class Machines(unittest.TestCase):
    def test_whole(self):
        x = ("name", "x")
        self.assertEqual(parse(WHOLE), (
            "m", (("reg", "a", 8), ("file", "f", 2, 8), ("rom", "c", 3, 5)),
            (
                (("let", "x", A), ("guess", "a", x)),
                (("put", "f", x, A, B), ("put", "f", x, A, None)),
                (("set", "a", x, B), ("set", "a", x, None)),
            ),
        ))

    def test_small(self):
        self.assertEqual(parse("machine m"), ("m", (), ()))
        self.assertEqual(parse("machine m at 0:"), ("m", (), ((),)))
        self.assertEqual(parse("machine m reg a 0; at 0: at 1:"), ("m", (("reg", "a", 0),), ((), ())))
        self.assertEqual(parse("machine m rom c 99 4294967295;")[1], (("rom", "c", 99, 4294967295),))

    def test_many_stages(self):
        text = "machine m\n" + "".join(f"at {at}:" for at in range(12))
        self.assertEqual(parse(text), ("m", (), ((),) * 12))


class Expressions(unittest.TestCase):
    def is_tree(self, text, tree):
        self.assertEqual(parse_expr(text), tree, text)

    def test_primaries(self):
        self.is_tree("5w8", ("lit", 5, 8))
        self.is_tree("a", A)
        self.is_tree("a[b]", ("read", "a", B))
        self.is_tree("a[b[c]]", ("read", "a", ("read", "b", C)))
        self.is_tree("(a)", A)
        self.is_tree("((a))", A)
        self.is_tree("wide(a, 8)", ("wide", A, 8))
        self.is_tree("wide(a ? b : c, 0)", ("wide", ("pick", A, B, C), 0))
        self.is_tree("part(a, 5, 2)", ("part", A, 5, 2))
        self.is_tree("join(a, b)", ("join", A, B))
        self.is_tree("a [ b ]", ("read", "a", B))

    def test_unary(self):
        self.is_tree("~a", ("not", A))
        self.is_tree("~~a", ("not", ("not", A)))
        self.is_tree("~a + b", op("+", ("not", A), B))
        self.is_tree("~a[b]", ("not", ("read", "a", B)))
        self.is_tree("a * ~b", op("*", A, ("not", B)))

    def test_levels(self):
        weakest_first = ("|", "^", "&", "==", "<<", "+", "*")
        for at, weak in enumerate(weakest_first):
            for strong in weakest_first[at + 1:]:
                self.is_tree(f"a {weak} b {strong} c", op(weak, A, op(strong, B, C)))
                self.is_tree(f"a {strong} b {weak} c", op(weak, op(strong, A, B), C))

    def test_left_groups(self):
        for group in (("|",), ("^",), ("&",), ("<<", ">>"), ("+", "-"), ("*",)):
            for one in group:
                for other in group:
                    self.is_tree(f"a {one} b {other} c", op(other, op(one, A, B), C))
                    self.is_tree(f"a {one} (b {other} c)", op(one, A, op(other, B, C)))

    def test_tests_do_not_group(self):
        for one in ("==", "<"):
            for other in ("==", "<"):
                for text in (f"a {one} b {other} c", f"d & a {one} b {other} c", f"(a {one} b {other} c)",
                             f"a {one} b + d {other} c"):
                    with self.assertRaises(Unexpected) as caught:
                        parse_expr(text)
                    self.assertEqual(caught.exception.column, text.rindex(f" {other} ") + 2, text)
                self.is_tree(f"(a {one} b) {other} c", op(other, op(one, A, B), C))
                self.is_tree(f"a {one} (b {other} c)", op(one, A, op(other, B, C)))
                self.is_tree(f"a {one} b & c {other} d", op("&", op(one, A, B), op(other, C, D)))

    def test_picks(self):
        self.is_tree("a ? b : c", ("pick", A, B, C))
        self.is_tree("a ? b : c ? d : a", ("pick", A, B, ("pick", C, D, A)))
        self.is_tree("a ? b ? c : d : a", ("pick", A, ("pick", B, C, D), A))
        self.is_tree("(a ? b : c) ? d : a", ("pick", ("pick", A, B, C), D, A))
        self.is_tree("a | b ? c | d : d | a", ("pick", op("|", A, B), op("|", C, D), op("|", D, A)))
        self.is_tree("a | (b ? c : d)", op("|", A, ("pick", B, C, D)))

    def test_long_ones(self):
        tree = A
        for _ in range(600):
            tree = op("+", tree, B)
        self.assertTrue(parse_expr("a" + " + b" * 600) == tree)
        tree = parse_expr("a ? b : " * 300 + "c")
        for _ in range(300):
            self.assertEqual(tree[:3], ("pick", A, B))
            tree = tree[3]
        self.assertEqual(tree, C)


class Wrong(unittest.TestCase):
    def unexpected(self, read, text, row, column):
        with self.assertRaises(TextError) as caught:
            read(text)
        self.assertIs(type(caught.exception), Unexpected, text)
        self.assertEqual((caught.exception.row, caught.exception.column), (row, column), text)

    def test_ends(self):
        self.unexpected(parse, "", 1, 1)
        self.unexpected(parse, "\n # x\n", 3, 1)
        self.unexpected(parse, "machine", 1, 8)
        self.unexpected(parse, "machine m x", 1, 11)
        self.unexpected(parse, "machine m;", 1, 10)
        self.unexpected(parse, "machine m at 0: 5w8", 1, 17)
        self.unexpected(parse, "machine m at 0: a := b; )", 1, 25)
        self.unexpected(parse, "machine m at 0: reg a 8;", 1, 17)
        self.unexpected(parse, "machine m at 0: machine", 1, 17)
        self.unexpected(parse_expr, "", 1, 1)
        self.unexpected(parse_expr, "a b", 1, 3)
        self.unexpected(parse_expr, "a)", 1, 2)
        self.unexpected(parse_expr, "a;", 1, 2)
        self.unexpected(parse_expr, "a when b", 1, 3)
        self.unexpected(parse_expr, "a[b][c]", 1, 5)

    def test_stage_numbers(self):
        self.unexpected(parse, "machine m at 1:", 1, 14)
        self.unexpected(parse, "machine m at 0: at 0:", 1, 20)
        self.unexpected(parse, "machine m at 0: at 2:", 1, 20)
        self.unexpected(parse, "machine m at x:", 1, 14)
        self.unexpected(parse, "machine m at 0w1:", 1, 14)
        self.unexpected(parse, "machine m at 0:= a", 1, 15)
        self.unexpected(parse, "machine m at :", 1, 14)

    def test_keywords_are_no_names(self):
        self.unexpected(parse, "machine reg", 1, 9)
        self.unexpected(parse, "machine m reg at 8;", 1, 15)
        self.unexpected(parse, "machine m at 0: let part = a;", 1, 21)
        self.unexpected(parse, "machine m at 0: wide := a;", 1, 17)
        self.unexpected(parse, "machine m at 0: guess when = a;", 1, 23)
        self.unexpected(parse_expr, "at", 1, 1)
        self.unexpected(parse_expr, "wide[a]", 1, 5)

    def test_numbers_and_literals_differ(self):
        self.unexpected(parse, "machine m reg a 8w8;", 1, 17)
        self.unexpected(parse, "machine m at 0: a := 8;", 1, 22)
        self.unexpected(parse_expr, "5", 1, 1)
        self.unexpected(parse_expr, "wide(a, 5w8)", 1, 9)
        self.unexpected(parse_expr, "part(a, b, 2)", 1, 9)
        self.unexpected(parse_expr, "join(a, 2)", 1, 9)

    def test_item_numbers(self):
        self.unexpected(parse, "machine m reg a 8 8;", 1, 19)
        self.unexpected(parse, "machine m file f 8;", 1, 19)
        self.unexpected(parse, "machine m rom f 8 8 8;", 1, 21)

    def test_tokens_come_first(self):
        with self.assertRaises(BadCharacter):
            parse("machine $")
        with self.assertRaises(BadNumber):
            parse_expr("a + 00")

    def test_a_token_left_out_doubled_or_another_one(self):
        """The place is that of the first token that cannot stand by the grammar."""
        others = ["5w8", "a", "12", "0", "1", "let", "at", "when", "join", ";", ":", ":=", "=", "(", ")", "[", "]",
                  "?", "+", "==", "~", ","]
        for whole, rule, read in ((WHOLE, "machine", parse), (LONG, "expr", parse_expr)):
            words = [token_text(token) for token in tokens(whole)[:-1]]
            self.judge(words, rule, read)
            for at in range(len(words)):
                self.judge(words[:at] + words[at + 1:], rule, read)
                self.judge(words[:at] + [words[at]] + words[at:], rule, read)
                for other in others:
                    self.judge(words[:at] + [other] + words[at + 1:], rule, read)
                    self.judge(words[:at] + [other] + words[at:], rule, read)

    def judge(self, words, rule, read):
        text = "\n ".join(words)
        wrong = first_wrong(tokens(text), rule)
        if wrong is None:
            read(text)
        else:
            self.unexpected(read, text, wrong[2], wrong[3])

    def test_places_of_tokens_left_out(self):
        for text, row, column in (
            ("m reg a 8;", 1, 1), ("machine reg a 8;", 1, 9), ("machine m a 8;", 1, 11), ("machine m reg 8;", 1, 15),
            ("machine m reg a ;", 1, 17), ("machine m reg a 8 at 0:", 1, 19), ("machine m at 0 a := b;", 1, 16),
            ("machine m at 0: a b;", 1, 19), ("machine m at 0: a := ;", 1, 22), ("machine m at 0: a := b", 1, 23),
            ("machine m at 0: a := b when ;", 1, 29), ("machine m at 0: a := b c;", 1, 24),
            ("machine m at 0: := b;", 1, 17), ("machine m at 0: f b] := c;", 1, 19),
            ("machine m at 0: f[ ] := c;", 1, 20), ("machine m at 0: f[b := c;", 1, 21),
            ("machine m at 0: f[b] c;", 1, 22), ("machine m at 0: f[b] := ;", 1, 25),
            ("machine m at 0: let = b;", 1, 21), ("machine m at 0: let a b;", 1, 23),
            ("machine m at 0: let a = ;", 1, 25), ("machine m at 0: let a := b;", 1, 23),
            ("machine m at 0: let a = b when c;", 1, 27), ("machine m at 0: guess a b;", 1, 25),
            ("machine m at 0: guess a[b] = c;", 1, 24), ("machine m at 0: a = b;", 1, 19),
        ):
            self.unexpected(parse, text, row, column)

    def test_expressions(self):
        for text, column in (
            ("a +", 4), ("+ a", 1), ("a + + b", 5), ("a ~ b", 3), ("~", 2), ("a ? b", 6), ("a ? : b", 5),
            ("a ? b :", 8), ("a : b", 3), ("(a", 3), ("()", 2), ("a[", 3), ("a[]", 3), ("a[b", 4), ("a[b)", 4),
            ("wide a, 8)", 6), ("wide(, 8)", 6), ("wide(a 8)", 8), ("wide(a, )", 9), ("wide(a, 8", 10),
            ("wide(a)", 7), ("wide(a, 8, 8)", 10), ("part(a, 1)", 10), ("part(a 1, 2)", 8), ("part(a, 1 2)", 11),
            ("part(a, 1, 2, 3)", 13), ("part(a, 1, 2", 13), ("part(a, , 2)", 9), ("join(a)", 7), ("join(a, b, c)", 10),
            ("join(a, )", 9), ("join(a b)", 8), ("join(a, b", 10), ("join", 5), ("let", 1), ("a == ", 6), ("a := b", 3),
            ("a = b", 3), ("a , b", 3), ("a (b)", 3), ("5w8[a]", 4), ("(a)[b]", 4), ("a ? b : c : d", 11),
        ):
            self.unexpected(parse_expr, text, 1, column)


if __name__ == "__main__":
    unittest.main()
