"""The heading stagecut/simplify.py."""

import unittest

from machines import made_machine, made_state
from stagecut.check import check
from stagecut.errors import Unfit
from stagecut.onestep import steps
from stagecut.parser import parse, parse_expr
from stagecut.printing import print_expr
from stagecut.simplify import count_parts, simplify

ITEMS = "machine m reg a 8; reg b 1; file f 2 8; rom o 2 8; "


def subtrees(tree):
    yield tree
    for part in tree[1:]:
        if isinstance(part, tuple):
            yield from subtrees(part)


def expressions(row):
    return [part for part in row[2:] if part is not None]


def simple(text):
    """A simplified expression."""
    rows = simplify(parse(ITEMS + f"at 0: let x = {text};"))[2][0]
    return print_expr(rows[0][2])


class Rows(unittest.TestCase):
    def test_what_stays(self):
        for seed in range(150):
            tree = made_machine(seed, depth=4)
            found = simplify(tree)
            self.assertEqual(found[:2], tree[:2])
            self.assertEqual([[row[:2] for row in rows] for rows in found[2]],
                             [[row[:2] for row in rows] for rows in tree[2]])
            self.assertEqual(check(found)[0], check(tree)[0])
            self.assertLessEqual(count_parts(found), count_parts(tree))
            self.assertEqual(simplify(found), found)

    def test_the_same_step(self):
        for seed in range(150):
            tree = made_machine(seed, depth=4)
            one, other = check(tree), check(simplify(tree))
            for chance in range(3):
                state = made_state(chance, one)
                self.assertEqual(steps(one, state, 3), steps(other, state, 3), seed)

    def test_what_reads_nothing_is_a_literal(self):
        for seed in range(150):
            for rows in simplify(made_machine(seed, depth=4))[2]:
                for row in rows:
                    for whole in expressions(row):
                        for tree in subtrees(whole):
                            kinds = {part[0] for part in subtrees(tree)}
                            self.assertTrue(tree[0] == "lit" or kinds & {"name", "read"}, tree)
                    if row[0] in ("set", "put"):
                        self.assertNotEqual(row[-1], ("lit", 1, 1))

    def test_arguments_stay(self):
        text = ITEMS + "at 0: a := 1w8 + 1w8 when 1w1;"
        tree = parse(text)
        simplify(tree)
        self.assertEqual(tree, parse(text))


class Tests(unittest.TestCase):
    def rows(self, text):
        return simplify(parse(ITEMS + "at 0: " + text))[2][0]

    def test_tests_that_hold(self):
        for test in ("1w1", "~0w1", "3w8 == 3w8", "1w8 < 2w8", "1w1 & 1w1", "part(4w8, 2, 2)"):
            self.assertEqual(self.rows(f"a := a when {test};"), (("set", "a", ("name", "a"), None),))
            self.assertEqual(self.rows(f"f[0w2] := a when {test};"),
                             (("put", "f", ("lit", 0, 2), ("name", "a"), None),))

    def test_other_tests(self):
        self.assertEqual(self.rows("a := a when 0w1;"), (("set", "a", ("name", "a"), ("lit", 0, 1)),))
        self.assertEqual(self.rows("a := a when 1w8 < 1w8;"), (("set", "a", ("name", "a"), ("lit", 0, 1)),))
        self.assertEqual(self.rows("a := a when b;"), (("set", "a", ("name", "a"), ("name", "b")),))
        self.assertEqual(self.rows("let x = 1w1;"), (("let", "x", ("lit", 1, 1)),))

    def test_guesses(self):
        found = simplify(parse(ITEMS + "at 0: guess b = ~0w1; at 1: b := 0w1 | 1w1;"))
        self.assertEqual(found[2], ((("guess", "b", ("lit", 1, 1)),), (("set", "b", ("lit", 1, 1), None),)))


class Expressions(unittest.TestCase):
    def test_literals(self):
        for text, told in (
            ("1w8 + 255w8", "0w8"), ("0w8 - 1w8", "255w8"), ("16w8 * 17w8", "16w8"), ("~5w8", "250w8"),
            ("1w8 << 9w32", "0w8"), ("128w8 >> 7w3", "1w8"), ("3w8 == 3w8", "1w1"), ("4w8 < 3w8", "0w1"),
            ("1w1 ? 3w8 : 4w8", "3w8"), ("wide(255w8, 4)", "15w4"), ("wide(255w8, 9)", "255w9"),
            ("part(180w8, 2, 5)", "13w4"), ("join(5w3, 2w2)", "22w5"), ("(1w8 + 2w8) * (3w8 ^ 1w8)", "6w8"),
        ):
            self.assertEqual(simple(text), told, text)

    def test_inside(self):
        self.assertEqual(simple("a + (1w8 + 2w8)"), "a + 3w8")
        self.assertEqual(simple("f[1w2 + 2w2]"), "f[3w2]")
        self.assertEqual(simple("o[~0w2] + a"), "o[3w2] + a")
        self.assertEqual(simple("b ? 1w8 + 1w8 : a"), "b ? 2w8 : a")

    def test_sides_that_do_not_matter(self):
        for text, told in (
            ("a + 0w8", "a"), ("0w8 + a", "a"), ("a - 0w8", "a"), ("a * 1w8", "a"), ("1w8 * a", "a"),
            ("a * 0w8", "0w8"), ("0w8 & a", "0w8"), ("a & 255w8", "a"), ("a | 0w8", "a"), ("a | 255w8", "255w8"),
            ("a ^ 0w8", "a"), ("a ^ a", "0w8"), ("a - a", "0w8"), ("a & a", "a"), ("a == a", "1w1"), ("a < a", "0w1"),
            ("a < 0w8", "0w1"), ("a << 0w8", "a"), ("a >> 8w8", "0w8"), ("0w8 << a", "0w8"), ("1w1 ? a : f[0w2]", "a"),
            ("0w1 ? f[0w2] : a", "a"), ("b ? a : a", "a"), ("wide(a, 8)", "a"), ("part(a, 0, 7)", "a"),
        ):
            self.assertEqual(simple(text), told, text)
        for text in ("0w8 - a", "a + 1w8", "a * 2w8", "a & 254w8", "a | 254w8", "a ^ 255w8", "a < 1w8", "0w8 < a",
                     "a << 7w8", "a >> a", "a << a", "a + a", "a * a", "b ? a : f[0w2]", "wide(a, 7)", "wide(a, 9)",
                     "part(a, 0, 6)", "part(a, 1, 7)", "~~a", "join(a, a)", "a == 0w8", "1w1 == b"):
            self.assertEqual(simple(text), text)


class Counts(unittest.TestCase):
    def count(self, rows):
        return count_parts(parse(ITEMS + "at 0: " + rows))

    def test_counts(self):
        self.assertEqual(self.count(""), 0)
        for text, many in (("a", 1), ("5w8", 1), ("~a", 2), ("a + b", 3), ("b ? a : 1w8", 4), ("f[0w2]", 2),
                           ("wide(a, 9)", 2), ("part(~a, 1, 2)", 3), ("join(a, join(a, b))", 5)):
            self.assertEqual(self.count(f"let x = {text};"), many)
            self.assertEqual(self.count(f"guess a = {text};"), many)
            self.assertEqual(self.count(f"a := {text};"), many)
            self.assertEqual(self.count(f"a := ~a when {text};"), many + 2)
            self.assertEqual(self.count(f"f[{text}] := ~a when a;"), many + 3)
        self.assertEqual(count_parts(parse(ITEMS + "at 0: a := ~a; at 1: at 2: let x = b;")), 3)
        self.assertEqual(count_parts(("m", (), ((("let", "x", parse_expr("a" + "+a" * 900)),),))), 1801)


class Wrong(unittest.TestCase):
    def test_what_check_raises(self):
        for text, place in (
            ("machine m reg a 0; at 0:", (-1, 0, "size")), (ITEMS + "at 0: a := b;", (0, 0, "width")),
            (ITEMS + "at 0: let x = q;", (0, 0, "unknown")),
            (ITEMS + "at 0: guess a = a; at 1: a := 0w8 when 1w1;", (0, 0, "guess")),
            (ITEMS + "at 0: a := 0w8; at 1: let x = 0w8 & a;", (1, 0, "late")),
        ):
            for read in (check, simplify):
                with self.assertRaises(Unfit) as caught:
                    read(parse(text))
                error = caught.exception
                self.assertEqual((error.stage, error.index, error.word), place)


if __name__ == "__main__":
    unittest.main()
