"""Promises 2.1 to 2.6."""

import unittest

from machines import made_machine
from stagecut.check import check, width_of
from stagecut.errors import CutError, Unfit
from stagecut.parser import parse, parse_expr

ITEMS = "machine m reg a 8; reg b 1; reg c 4; file f 2 8; rom o 3 5; file g 4 1; "


class Checks(unittest.TestCase):
    def fits(self, text):
        return check(parse(text))

    def unfit(self, text, stage, index, word):
        tree = parse(text) if isinstance(text, str) else text
        with self.assertRaises(CutError) as caught:
            check(tree)
        error = caught.exception
        self.assertIs(type(error), Unfit)
        self.assertEqual((error.stage, error.index, error.word), (stage, index, word), text)

    def expr_unfit(self, text, word):
        """The same fault in an expression at each place where one can stand, and in a later stage."""
        for rows, index in ((f"let x = {text};", 0), (f"let y = a; a := {text};", 1), (f"f[{text}] := a;", 0),
                            (f"f[0w2] := {text} when 1w1;", 0), (f"guess a = {text};", 0), (f"a := a when {text};", 0)):
            self.unfit(ITEMS + "at 0: " + rows, 0, index, word)
            self.unfit(ITEMS + "at 0: let z = b; at 1: " + rows, 1, index, word)

    def expr_fits(self, text, width):
        plan = self.fits(ITEMS + f"at 0: let x = {text};")
        self.assertEqual(plan[3][0][1], width, text)
        self.assertEqual(width_of(plan, plan[3][0][3]), width, text)


class Items(Checks):
    def test_bounds(self):
        for text in ("reg a 1;", "reg a 32;", "file a 1 1;", "file a 6 32;", "rom a 1 1;", "rom a 6 32;"):
            self.fits(f"machine m {text} at 0:")
            self.fits(f"machine m reg z 8; {text} at 0:")

    def test_sizes(self):
        for text in ("reg a 0;", "reg a 33;", "file a 0 8;", "file a 7 8;", "file a 1 0;", "file a 1 33;",
                     "rom a 0 8;", "rom a 7 8;", "rom a 1 0;", "rom a 1 33;", "reg a 4294967295;"):
            self.unfit(f"machine m {text} at 0:", -1, 0, "size")
            self.unfit(f"machine m reg z 8; {text} at 0:", -1, 1, "size")

    def test_names(self):
        kinds = ("reg {} 8;", "file {} 2 8;", "rom {} 2 8;")
        for one in kinds:
            for other in kinds:
                text = one.format("a") + other.format("b") + other.format("a")
                self.unfit(f"machine m {text} at 0:", -1, 2, "twice")

    def test_order(self):
        self.unfit("machine m reg a 8; reg a 0; at 0:", -1, 1, "twice")
        self.unfit("machine m reg a 0; reg a 8; at 0:", -1, 0, "size")
        self.unfit("machine m reg a 0;", -1, 0, "size")
        self.unfit("machine m reg a 8; reg a 8; at 0: a := x;", -1, 1, "twice")

    def test_stages(self):
        stages = [f"at {at}: " for at in range(12)]
        for many in range(13):
            for items, index in (("", 0), ("reg a 8; reg b 8; ", 2)):
                text = "machine m " + items + "".join(stages[:many])
                if 1 <= many <= 8:
                    self.assertEqual(self.fits(text)[0], many)
                else:
                    self.unfit(text, -1, index, "size")
        self.unfit("machine m reg a 8; " + "".join(stages[:8]) + "at 8: a := x;", -1, 1, "size")


class Widths(Checks):
    def test_one_width(self):
        for sign in "+-*&|^":
            self.expr_fits(f"a {sign} 255w8", 8)
            self.expr_fits(f"0w32 {sign} 1w32", 32)
            self.expr_fits(f"b {sign} 1w1", 1)
            self.expr_unfit(f"a {sign} 1w7", "width")
            self.expr_unfit(f"1w9 {sign} a", "width")
        for sign in ("==", "<"):
            self.expr_fits(f"a {sign} 255w8", 1)
            self.expr_unfit(f"a {sign} 1w7", "width")
            self.expr_unfit(f"c {sign} a", "width")

    def test_shifts(self):
        for sign in ("<<", ">>"):
            self.expr_fits(f"a {sign} 1w1", 8)
            self.expr_fits(f"b {sign} 1w32", 1)
            self.expr_fits(f"c {sign} a", 4)

    def test_others(self):
        self.expr_fits("~a", 8)
        self.expr_fits("~(a == a)", 1)
        self.expr_fits("b ? a : 1w8", 8)
        self.expr_fits("wide(a, 1)", 1)
        self.expr_fits("wide(a, 8)", 8)
        self.expr_fits("wide(a, 32)", 32)
        self.expr_unfit("wide(a, 0)", "width")
        self.expr_unfit("wide(a, 33)", "width")
        self.expr_fits("part(a, 0, 7)", 8)
        self.expr_fits("part(a, 7, 7)", 1)
        self.expr_fits("part(a, 0, 0)", 1)
        self.expr_fits("part(a, 2, 5)", 4)
        self.expr_unfit("part(a, 0, 8)", "width")
        self.expr_unfit("part(a, 8, 8)", "width")
        self.expr_unfit("part(a, 3, 2)", "width")
        self.expr_fits("join(a, b)", 9)
        self.expr_fits("join(1w31, b)", 32)
        self.expr_fits("join(1w16, 1w16)", 32)
        self.expr_unfit("join(1w32, b)", "width")
        self.expr_unfit("join(1w16, 1w17)", "width")
        self.expr_fits("f[1w2]", 8)
        self.expr_fits("o[1w3]", 5)
        self.expr_fits("g[c]", 1)
        self.expr_unfit("f[c]", "width")
        self.expr_unfit("o[1w2]", "width")
        self.expr_fits("5w7", 7)

    def test_picks(self):
        self.expr_unfit("a ? a : a", "width")
        self.expr_unfit("b ? a : c", "width")
        self.expr_unfit("2w2 ? b : b", "width")
        # The test and its width come ahead of the other parts, the widths of these behind them.
        self.expr_unfit("a ? q : f", "width")
        self.expr_unfit("q ? f : a", "unknown")
        self.expr_unfit("b ? f : q", "kind")
        self.expr_unfit("b ? a + b : q", "width")
        self.expr_unfit("b ? a : q", "unknown")

    def test_names(self):
        self.expr_unfit("q", "unknown")
        self.expr_unfit("q[1w2]", "unknown")
        self.expr_unfit("f", "kind")
        self.expr_unfit("o", "kind")
        self.expr_unfit("a[1w2]", "kind")
        self.expr_unfit("m", "unknown")
        # The name of a reading comes ahead of its address, the width of this behind it.
        self.expr_unfit("q[f]", "unknown")
        self.expr_unfit("a[q]", "kind")
        self.expr_unfit("f[q]", "unknown")
        self.expr_unfit("f[a + c]", "width")
        self.expr_unfit("f[f[b]]", "width")
        self.expr_unfit("f[f]", "kind")

    def test_parts_come_from_the_left(self):
        for text in ("{} + {}", "{} << {}", "{} == {}", "join({}, {})", "b ? {} : {}"):
            self.expr_unfit(text.format("q", "f"), "unknown")
            self.expr_unfit(text.format("f", "q"), "kind")
            self.expr_unfit(text.format("a + c", "q"), "width")
            self.expr_unfit(text.format("a", "q"), "unknown")
        self.expr_unfit("wide(q, 0)", "unknown")
        self.expr_unfit("part(f, 9, 2)", "kind")
        self.expr_unfit("~q", "unknown")

    def test_lets(self):
        self.unfit(ITEMS + "at 0: let x = y; let y = a;", 0, 0, "unknown")
        self.unfit(ITEMS + "at 0: let x = x;", 0, 0, "unknown")
        self.unfit(ITEMS + "at 0: a := x; at 1: let x = a;", 0, 0, "unknown")
        self.unfit(ITEMS + "at 0: let x = a; let y = x[0w1];", 0, 1, "kind")
        self.unfit(ITEMS + "at 0: let x = a; at 1: b := x;", 1, 0, "width")
        self.fits(ITEMS + "at 0: let x = a; at 1: let y = x + a; a := x + y;")


class Rows(Checks):
    def test_lets_are_new(self):
        for name in ("a", "f", "o"):
            self.unfit(ITEMS + f"at 0: let {name} = q;", 0, 0, "twice")
        self.unfit(ITEMS + "at 0: let x = a; at 1: let y = x; let x = q;", 1, 1, "twice")
        self.fits(ITEMS + "at 0: let m = a;")

    def test_names(self):
        for row in ("{} := q;", "{}[q] := q;", "guess {} = q;"):
            self.unfit(ITEMS + "at 0: let x = a; " + row.format("q"), 0, 1, "unknown")
            self.unfit(ITEMS + "at 0: let x = a; " + row.format("x"), 0, 1, "kind")
            self.unfit(ITEMS + "at 0: let x = a; " + row.format("o"), 0, 1, "kind")
        for row in ("f := q;", "a[q] := q;", "guess f = q;"):
            self.unfit(ITEMS + "at 0: " + row, 0, 0, "kind")

    def test_second(self):
        for row in ("a := {}", "f[{}] := a", "guess a = {}"):
            right = "0w2" if row[0] == "f" else "0w8"
            text = "at 0: " + row.format(right) + "; " + row.format("q") + ";"
            self.unfit(ITEMS + text, 0, 1, "second")
            text = "at 0: " + row.format(right) + "; at 1: " + row.format("q") + ";"
            self.unfit(ITEMS + text, 1, 0, "second")
        self.fits(ITEMS + "at 0: a := a; b := b; f[0w2] := a; g[0w4] := b;")
        # A set row and a guess row of one register are not two of one kind.
        self.fits(ITEMS + "at 0: guess a = a; at 1: a := 0w8;")
        # Registers and files are counted apart.
        self.fits("machine m reg a 8; file f 1 8; at 0: a := a; f[0w1] := a;")

    def test_widths(self):
        self.unfit(ITEMS + "at 0: a := b;", 0, 0, "width")
        self.unfit(ITEMS + "at 0: a := a when a;", 0, 0, "width")
        self.unfit(ITEMS + "at 0: guess a = b;", 0, 0, "width")
        self.unfit(ITEMS + "at 0: f[b] := a;", 0, 0, "width")
        self.unfit(ITEMS + "at 0: f[0w2] := b;", 0, 0, "width")
        self.unfit(ITEMS + "at 0: f[0w2] := a when 0w2;", 0, 0, "width")

    def test_each_expression_is_followed_by_its_width(self):
        self.unfit(ITEMS + "at 0: a := b when q;", 0, 0, "width")
        self.unfit(ITEMS + "at 0: a := q when f;", 0, 0, "unknown")
        self.unfit(ITEMS + "at 0: a := a when f;", 0, 0, "kind")
        self.unfit(ITEMS + "at 0: f[b] := q when f;", 0, 0, "width")
        self.unfit(ITEMS + "at 0: f[0w2] := f when q;", 0, 0, "kind")
        self.unfit(ITEMS + "at 0: f[0w2] := b when q;", 0, 0, "width")
        self.unfit(ITEMS + "at 0: f[0w2] := a when q;", 0, 0, "unknown")

    def test_the_first_row_is_told(self):
        self.unfit(ITEMS + "at 0: let x = a; let y = a + b; let z = q;", 0, 1, "width")
        self.unfit(ITEMS + "at 0: let x = a; at 1: let y = q; let z = a + b;", 1, 0, "unknown")


class Stages(Checks):
    def test_late_registers(self):
        for row in ("let x = {};", "b := {} == 0w8;", "b := b when {} == 0w8;", "f[part({}, 0, 1)] := 0w8;",
                    "f[0w2] := {};", "f[0w2] := 0w8 when part({}, 0, 0);", "let x = o[part({}, 0, 2)];"):
            rows = row.format("a")
            self.unfit(ITEMS + "at 0: a := 0w8; at 1: let w = 0w1; " + rows, 1, 1, "late")
            self.fits(ITEMS + "at 0: let z = b; at 1: let w = 0w1; a := 0w8; " + rows)
            self.fits(ITEMS + "at 0: let z = b; " + rows + " at 1: a := 0w8;")
            self.fits(ITEMS + "at 0: a := 0w8; let k = a; at 1: " + row.format("k"))
        self.unfit(ITEMS + "at 0: a := 0w8; at 1: at 2: let x = 0w1 ? 0w8 : a;", 2, 0, "late")

    def test_late_files(self):
        self.unfit(ITEMS + "at 0: f[0w2] := 0w8; at 1: let x = f[1w2];", 1, 0, "late")
        self.unfit(ITEMS + "at 0: a := f[1w2]; f[0w2] := 0w8; at 1: let x = f[0w2] == a;", 1, 0, "late")
        self.fits(ITEMS + "at 0: let x = f[1w2]; at 1: f[0w2] := 0w8; let y = f[0w2];")
        self.fits(ITEMS + "at 0: f[0w2] := 0w8; at 1: let x = g[1w4]; let y = o[0w3];")
        self.fits(ITEMS + "at 0: let w = b; at 1: at 2: at 3: at 4: let x = f[0w2]; let y = a;")

    def test_late_guessed(self):
        self.unfit(ITEMS + "at 0: guess a = a; at 1: let x = a; at 2: a := 0w8;", 1, 0, "late")
        self.unfit(ITEMS + "at 0: guess a = a; at 1: at 2: a := a + 1w8;", 2, 0, "late")
        self.fits(ITEMS + "at 0: let y = a; at 1: let x = a; guess a = a; let z = a; at 2: a := 0w8;")
        # A guess row can itself be late, which is told ahead of what is wrong with the guess.
        self.unfit(ITEMS + "at 0: a := 0w8; at 1: guess a = a;", 1, 0, "late")
        self.unfit(ITEMS + "at 0: b := 0w1; at 1: guess a = wide(b, 8);", 1, 0, "late")

    def test_guess(self):
        self.fits(ITEMS + "at 0: guess a = 1w8; at 1: a := 0w8;")
        for rows in ("guess a = 1w8;", "guess a = 1w8; at 1: b := 0w1;", "guess a = 1w8; a := 0w8;",
                     "guess a = 1w8; at 1: a := 0w8 when b;", "guess a = 1w8; at 1: a := 0w8 when 1w1;"):
            self.unfit(ITEMS + "at 0: let w = b; " + rows, 0, 1, "guess")
        self.unfit(ITEMS + "at 0: a := 0w8; at 1: guess a = 1w8;", 1, 0, "guess")
        self.unfit(ITEMS + "at 0: a := 0w8; guess a = 1w8;", 0, 1, "guess")

    def test_early(self):
        guess = "at 0: guess a = 1w8; {} at 1: {} at 2: a := 0w8; {}"
        for row in ("b := 0w1;", "f[0w2] := 0w8;", "b := b when 0w1;"):
            self.unfit(ITEMS + guess.format("let w = b; " + row, "", ""), 0, 2, "early")
            self.unfit(ITEMS + guess.format("", row, ""), 1, 0, "early")
            self.fits(ITEMS + guess.format("", "", row))
            self.fits(ITEMS + guess.format("", "", " at 3: " + row))
        # Guessed registers may be written in different stages; the last one counts for the others.
        two = "at 0: guess a = 1w8; guess c = 1w4; at 1: c := 0w4; {} at 2: {} at 3: a := 0w8; {}"
        self.fits(ITEMS + two.format("", "", "b := 0w1;"))
        self.unfit(ITEMS + two.format("b := 0w1;", "", ""), 1, 1, "early")
        self.unfit(ITEMS + two.format("", "b := 0w1;", ""), 2, 0, "early")
        self.fits(ITEMS + "at 0: b := 0w1; at 1: a := 0w8;")

    def test_order(self):
        # These come behind all that is told of single rows.
        self.unfit(ITEMS + "at 0: guess a = 1w8; at 1: let x = q;", 1, 0, "unknown")
        self.unfit(ITEMS + "at 0: b := b; at 1: let x = b; let y = a + c;", 1, 1, "width")
        # Among themselves they come row by row.
        self.unfit(ITEMS + "at 0: c := c; at 1: let x = c; guess a = 1w8;", 1, 0, "late")
        self.unfit(ITEMS + "at 0: guess a = 1w8; at 1: c := c; at 2: let x = c;", 0, 0, "guess")
        self.unfit(ITEMS + "at 0: guess a = 1w8; b := b; at 1: let x = b; at 2: a := 0w8;", 0, 1, "early")
        # One row can be late and early.
        self.unfit(ITEMS + "at 0: c := c; guess a = 1w8; at 1: b := part(c, 0, 0); at 2: a := 0w8;", 0, 0, "early")
        self.unfit(ITEMS + "at 0: guess a = 1w8; guess c = 1w4; at 1: b := part(c, 0, 0); at 2: a := 0w8; c := 0w4;",
                   1, 0, "late")


class Plans(Checks):
    def test_whole(self):
        text = """machine m
        reg a 8; rom o 3 5; reg b 1; file f 2 8;
        at 0:
          let x = a + 1w8;
          guess a = x;
          let y = o[part(x, 0, 2)];
        at 1:
          a := b ? x : wide(y, 8);
          let z = f[part(y, 0, 1)] < x;
          f[part(x, 6, 7)] := ~x when z;
          b := z when y == 3w5;
        at 2:
        """
        x, y, z = ("let", 0), ("let", 1), ("let", 2)
        self.assertEqual(self.fits(text), (
            3,
            (("a", 8), ("b", 1)),
            (("o", 3, 5, True), ("f", 2, 8, False)),
            (
                ("x", 8, 0, ("op", "+", ("reg", 0), ("lit", 1, 8))),
                ("y", 5, 0, ("read", 0, ("part", x, 0, 2))),
                ("z", 1, 1, ("op", "<", ("read", 1, ("part", y, 0, 1)), x)),
            ),
            (
                ("set", 0, 1, None, ("pick", ("reg", 1), x, ("wide", y, 8)), None),
                ("put", 1, 1, ("part", x, 6, 7), ("not", x), z),
                ("set", 1, 1, None, z, ("op", "==", y, ("lit", 3, 5))),
            ),
            ((0, 0, x),),
        ))

    def test_small(self):
        self.assertEqual(self.fits("machine m at 0:"), (1, (), (), (), (), ()))

    def test_join_and_tests(self):
        plan = self.fits("machine m reg a 8; at 0: let x = join(a, 1w1); a := 1w8 when 1w1;")
        self.assertEqual(plan[3], (("x", 9, 0, ("join", ("reg", 0), ("lit", 1, 1))),))
        self.assertEqual(plan[4], (("set", 0, 0, None, ("lit", 1, 8), ("lit", 1, 1)),))

    def test_widths_of_parts(self):
        plan = self.fits(ITEMS + "at 0: let x = a;")
        for core, width in (
            (("lit", 3, 7), 7), (("reg", 2), 4), (("let", 0), 8), (("read", 0, ("lit", 0, 2)), 8),
            (("read", 1, ("lit", 0, 3)), 5), (("not", ("reg", 1)), 1), (("op", "==", ("reg", 0), ("let", 0)), 1),
            (("op", "<", ("reg", 0), ("let", 0)), 1), (("op", "*", ("reg", 0), ("let", 0)), 8),
            (("op", "<<", ("reg", 2), ("let", 0)), 4), (("op", ">>", ("reg", 1), ("let", 0)), 1),
            (("pick", ("reg", 1), ("reg", 2), ("reg", 2)), 4), (("wide", ("reg", 0), 17), 17),
            (("part", ("reg", 0), 3, 6), 4), (("join", ("reg", 0), ("reg", 2)), 12),
        ):
            self.assertEqual(width_of(plan, core), width, core)

    def test_made_machines_fit(self):
        for seed in range(60):
            plan = check(made_machine(seed))
            for row in plan[3]:
                self.assertEqual(width_of(plan, row[3]), row[1])

    def test_deep_trees(self):
        text = "a" + " + a" * 500
        plan = check(("m", (("reg", "a", 8),), ((("let", "x", parse_expr(text)),),)))
        self.assertEqual(width_of(plan, plan[3][0][3]), 8)


if __name__ == "__main__":
    unittest.main()
