"""Promise 1.6."""

import itertools
import unittest

from machines import made_machine
from stagecut.errors import TextError
from stagecut.parser import parse, parse_expr
from stagecut.printing import print_expr, print_machine, print_row

A = ("name", "a")
B = ("name", "b")
C = ("name", "c")
SIGNS = ("+", "-", "*", "&", "|", "^", "==", "<", "<<", ">>")


def outer_brackets(text):
    """The places of the brackets of each pair that groups, not those of a word or a reading."""
    found = []
    opened = []
    for at, sign in enumerate(text):
        if sign == "(":
            opened.append(at)
        elif sign == ")":
            first = opened.pop()
            if first == 0 or not text[first - 1].isalnum():
                found.append((first, at))
    return found


class Expressions(unittest.TestCase):
    def test_each_kind(self):
        for tree, text in (
            (("lit", 5, 8), "5w8"), (("lit", 0, 1), "0w1"), (A, "a"), (("read", "f", A), "f[a]"),
            (("read", "f", ("op", "+", A, B)), "f[a + b]"), (("not", A), "~a"), (("not", ("not", A)), "~~a"),
            (("not", ("op", "*", A, B)), "~(a * b)"), (("not", ("pick", A, B, C)), "~(a ? b : c)"),
            (("pick", A, B, C), "a ? b : c"), (("wide", A, 8), "wide(a, 8)"),
            (("wide", ("pick", A, B, C), 0), "wide(a ? b : c, 0)"), (("part", A, 2, 5), "part(a, 2, 5)"),
            (("join", A, ("op", "|", B, C)), "join(a, b | c)"), (("not", ("read", "f", A)), "~f[a]"),
            (("not", ("join", A, B)), "~join(a, b)"),
        ):
            self.assertEqual(print_expr(tree), text)
            self.assertEqual(parse_expr(text), tree)

    def test_picks(self):
        inner = ("pick", A, B, C)
        self.assertEqual(print_expr(("pick", inner, A, B)), "(a ? b : c) ? a : b")
        self.assertEqual(print_expr(("pick", A, inner, B)), "a ? a ? b : c : b")
        self.assertEqual(print_expr(("pick", A, B, inner)), "a ? b : a ? b : c")
        for sign in SIGNS:
            tree = ("op", sign, A, B)
            self.assertEqual(print_expr(("pick", tree, tree, tree)), f"a {sign} b ? a {sign} b : a {sign} b")
            self.assertEqual(print_expr(("op", sign, inner, C)), f"(a ? b : c) {sign} c")
            self.assertEqual(print_expr(("op", sign, C, inner)), f"c {sign} (a ? b : c)")
            self.assertEqual(print_expr(("op", sign, ("not", A), ("not", B))), f"~a {sign} ~b")

    def test_pairs_of_operators(self):
        """Brackets stand exactly where the text without them is read in another way."""
        for one, other in itertools.product(SIGNS, SIGNS):
            left = ("op", other, ("op", one, A, B), C)
            self.agrees(left, f"a {one} b {other} c", f"(a {one} b) {other} c")
            right = ("op", one, A, ("op", other, B, C))
            self.agrees(right, f"a {one} b {other} c", f"a {one} (b {other} c)")

    def agrees(self, tree, bare, bracketed):
        try:
            needed = parse_expr(bare) != tree
        except TextError:
            needed = True
        self.assertEqual(print_expr(tree), bracketed if needed else bare)
        self.assertEqual(parse_expr(print_expr(tree)), tree)

    def test_no_pair_of_brackets_can_be_left_out(self):
        for seed in range(60):
            for rows in made_machine(seed, depth=5)[2]:
                for row in rows:
                    self.needs_all(row[2])

    def needs_all(self, tree):
        text = print_expr(tree)
        self.assertEqual(parse_expr(text), tree)
        for first, last in outer_brackets(text):
            without = text[:first] + text[first + 1:last] + text[last + 1:]
            try:
                self.assertNotEqual(parse_expr(without), tree, text)
            except TextError:
                pass


class Rows(unittest.TestCase):
    def test_each_kind(self):
        for row, text in (
            (("let", "x", ("op", "+", A, B)), "let x = a + b;"),
            (("guess", "a", ("not", A)), "guess a = ~a;"),
            (("set", "a", B, None), "a := b;"),
            (("set", "a", B, ("op", "==", A, B)), "a := b when a == b;"),
            (("set", "a", ("pick", A, B, C), ("pick", A, B, C)), "a := a ? b : c when a ? b : c;"),
            (("put", "f", A, B, None), "f[a] := b;"),
            (("put", "f", ("op", "|", A, B), B, C), "f[a | b] := b when c;"),
        ):
            self.assertEqual(print_row(row), text)


class Machines(unittest.TestCase):
    def test_whole(self):
        tree = (
            "m", (("reg", "a", 8), ("file", "f", 2, 8), ("rom", "c", 3, 5)),
            ((("let", "x", A), ("guess", "a", ("lit", 3, 8))), (), (("set", "a", ("name", "x"), None),)),
        )
        text = ("machine m\nreg a 8;\nfile f 2 8;\nrom c 3 5;\n"
                "at 0:\n  let x = a;\n  guess a = 3w8;\nat 1:\nat 2:\n  a := x;\n")
        self.assertEqual(print_machine(tree), text)
        self.assertEqual(parse(text), tree)

    def test_small(self):
        self.assertEqual(print_machine(("m", (), ())), "machine m\n")
        self.assertEqual(print_machine(("m", (), ((), ()))), "machine m\nat 0:\nat 1:\n")

    def test_reading_back(self):
        for seed in range(80):
            tree = made_machine(seed, depth=4)
            self.assertEqual(parse(print_machine(tree)), tree)


if __name__ == "__main__":
    unittest.main()
