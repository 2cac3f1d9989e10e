"""Promise 5.4."""

import unittest

from machines import made_machine, made_state
from stagecut.check import check
from stagecut.hazards import hazards
from stagecut.parser import parse
from stagecut.pipeline import Pipeline

ITEMS = "machine m reg a 8; reg b 8; reg c 1; file f 1 8; rom o 2 8; "


def found(rows):
    return hazards(check(parse(ITEMS + rows)))


def how(rows):
    """How the let with the number 0 reads what it reads first."""
    return [told[2:] for told in found(rows) if told[0][:2] == ("let", 0)][0]


class Kinds(unittest.TestCase):
    def test_front(self):
        self.assertEqual(how("at 0: let x = a; guess a = b; at 1: at 2: a := 0w8;"), (2, "front"))
        self.assertEqual(how("at 0: at 1: let x = a; guess a = a; at 2: a := b;"), (1, "front"))
        # A file is not guessed, whatever registers are.
        self.assertEqual(how("at 0: let x = f[0w1]; guess a = b; at 1: a := 0w8; f[c] := b;"), (1, "passed"))

    def test_fixed(self):
        self.assertEqual(how("at 0: at 1: let x = a;"), (0, "fixed"))
        self.assertEqual(how("at 0: let x = o[0w2]; at 1: a := a;"), (0, "fixed"))
        self.assertEqual(how("at 0: let x = f[0w1]; at 1: a := a;"), (0, "fixed"))

    def test_own(self):
        self.assertEqual(how("at 0: let x = a; a := b;"), (0, "own"))
        self.assertEqual(how("at 0: at 1: let x = f[0w1]; f[c] := a when c;"), (0, "own"))

    def test_passed(self):
        self.assertEqual(how("at 0: let x = a; at 1: a := b;"), (1, "passed"))
        self.assertEqual(how("at 0: let x = a; at 1: at 2: at 3: a := x;"), (3, "passed"))
        self.assertEqual(how("at 0: let x = a; at 1: at 2: a := 5w8 when 1w1;"), (2, "passed"))
        self.assertEqual(how("at 0: let x = a; at 1: let y = b; at 2: at 3: a := y;"), (3, "passed"))
        self.assertEqual(how("at 0: at 1: let x = a; at 2: a := b when c;"), (1, "passed"))
        self.assertEqual(how("at 0: let x = f[0w1]; at 1: f[c] := a when c;"), (1, "passed"))
        self.assertEqual(how("at 0: let x = f[0w1]; let t = c; at 1: at 2: f[t] := x when t;"), (2, "passed"))

    def test_waits(self):
        self.assertEqual(how("at 0: let x = a; at 1: at 2: a := b;"), (2, "waits"))
        self.assertEqual(how("at 0: let x = a; at 1: at 2: a := 5w8 when c;"), (2, "waits"))
        self.assertEqual(how("at 0: let x = a; at 1: at 2: let y = b; at 3: a := y;"), (3, "waits"))
        self.assertEqual(how("at 0: let x = f[0w1]; at 1: at 2: f[c] := 5w8;"), (2, "waits"))
        self.assertEqual(how("at 0: let x = f[0w1]; at 1: at 2: f[0w1] := b;"), (2, "waits"))
        self.assertEqual(how("at 0: let x = f[0w1]; at 1: at 2: f[0w1] := 5w8 when c;"), (2, "waits"))
        self.assertEqual(how("at 0: at 1: let x = a; at 2: at 3: a := b;"), (2, "waits"))


class Order(unittest.TestCase):
    def test_rows(self):
        """Lets, then guesses, then rows that write, in the order in which the plan has them."""
        rows = """
        at 0: let x = b; guess a = x + b; let y = 5w8;
        at 1: b := b; let z = o[0w2]; a := z; f[c] := o[1w2] when c; """
        self.assertEqual(found(rows), (
            (("let", 0, 0), ("reg", 1), 1, "passed"),
            (("let", 2, 1), ("read", 1), 0, "fixed"),
            (("guess", 0, 0), ("reg", 1), 1, "passed"),
            (("write", 0, 1), ("reg", 1), 0, "own"),
            (("write", 2, 1), ("reg", 2), 0, "fixed"),
            (("write", 2, 1), ("read", 1), 0, "fixed"),
            (("write", 2, 1), ("reg", 2), 0, "fixed"),
        ))

    def test_cores(self):
        """Address, value, test."""
        rows = "at 0: f[part(a, 0, 0)] := b when c;"
        self.assertEqual([told[1] for told in found(rows)], [("reg", 0), ("reg", 1), ("reg", 2)])
        rows = "at 0: a := b when c;"
        self.assertEqual([told[1] for told in found(rows)], [("reg", 1), ("reg", 2)])

    def test_readings(self):
        """From the left, a file ahead of what its address reads, one that stands twice twice."""
        rows = "at 0: let x = a + f[c] * (b ^ a);"
        self.assertEqual([told[1] for told in found(rows)],
                         [("reg", 0), ("read", 0), ("reg", 2), ("reg", 1), ("reg", 0)])
        rows = "at 0: let x = f[part(o[part(f[c], 0, 1)], 0, 0)] + f[c];"
        self.assertEqual([told[1] for told in found(rows)],
                         [("read", 0), ("read", 1), ("read", 0), ("reg", 2), ("read", 0), ("reg", 2)])
        rows = "at 0: let x = c ? a : join(part(b, 0, 3), part(a, 4, 7)); let y = wide(~b, 9);"
        self.assertEqual([told[1] for told in found(rows)],
                         [("reg", 2), ("reg", 0), ("reg", 1), ("reg", 0), ("reg", 1)])

    def test_nothing(self):
        self.assertEqual(found("at 0: let x = 5w8; let y = x; at 1: a := y;"), ())
        self.assertEqual(hazards(check(parse("machine m at 0:"))), ())


class Made(unittest.TestCase):
    def test_only_those_that_wait_wait(self):
        """In a stage without a reading that waits or of a front, no instruction waits."""
        for seed in range(100):
            plan = check(made_machine(seed))
            pipeline = Pipeline(plan, made_state(seed, plan))
            for _ in range(20):
                pipeline.cycle()
            stages = {told[0][2] for told in hazards(plan) if told[3] in ("waits", "front")}
            for stage, many in enumerate(pipeline.waited):
                self.assertTrue(many == 0 or stage in stages, seed)


if __name__ == "__main__":
    unittest.main()
