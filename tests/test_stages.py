"""Promise 4.2 and the heading stagecut/stages.py."""

import unittest

from stagecut.check import check
from stagecut.parser import parse
from stagecut.stages import gap, last_use, times


def plan_of(rows):
    return check(parse("machine m reg a 8; reg b 8; reg c 1; file f 2 8; rom o 2 8; " + rows))


class Times(unittest.TestCase):
    def test_nothing_there(self):
        self.assertEqual(times(plan_of("at 0: let x = a;")), ())
        self.assertEqual(times(plan_of("at 0: at 1: at 2: a := 5w8;")), ((0, 0, 0),))
        self.assertEqual(times(plan_of("at 0: at 1: f[0w2] := 1w8 when 1w1;")), ((0, 0, 0),))

    def test_readings(self):
        self.assertEqual(times(plan_of("at 0: at 1: at 2: a := a;")), ((0, 0, 2),))
        self.assertEqual(times(plan_of("at 0: at 1: at 2: a := 5w8 when c;")), ((2, 0, 0),))
        self.assertEqual(times(plan_of("at 0: at 1: f[part(b, 0, 1)] := 5w8;")), ((0, 1, 0),))
        self.assertEqual(times(plan_of("at 0: at 1: at 2: a := f[0w2];")), ((0, 0, 2),))
        # What nothing writes is read, too, and a rom is.
        self.assertEqual(times(plan_of("at 0: at 1: at 2: a := o[0w2] + b;")), ((0, 0, 2),))
        self.assertEqual(times(plan_of("at 0: let x = 0w2; at 1: at 2: a := o[x];")), ((0, 0, 2),))

    def test_lets(self):
        rows = "at 0: let x = a; at 1: let y = x; let k = 3w8; at 2: let z = c; at 3: {}"
        self.assertEqual(times(plan_of(rows.format("a := x;"))), ((0, 0, 0),))
        self.assertEqual(times(plan_of(rows.format("a := x + y;"))), ((0, 0, 1),))
        self.assertEqual(times(plan_of(rows.format("a := y + x;"))), ((0, 0, 1),))
        self.assertEqual(times(plan_of(rows.format("a := k;"))), ((0, 0, 1),))
        self.assertEqual(times(plan_of(rows.format("a := 1w8 when z;"))), ((2, 0, 0),))
        self.assertEqual(times(plan_of(rows.format("f[part(y, 0, 1)] := x when z;"))), ((2, 1, 0),))
        self.assertEqual(times(plan_of(rows.format("f[part(y, 0, 1)] := x + b when z & c;"))), ((3, 1, 3),))
        self.assertEqual(times(plan_of(rows.format("a := z ? x : y;"))), ((0, 0, 2),))

    def test_order(self):
        plan = plan_of("at 0: let x = c; at 1: c := x; at 2: b := b; f[0w2] := 1w8 when x; at 3: a := 1w8 when x;")
        self.assertEqual(times(plan), ((0, 0, 0), (0, 0, 2), (0, 0, 0), (0, 0, 0)))


class Gaps(unittest.TestCase):
    def test_gap(self):
        plan = plan_of("at 0: let x = a; at 1: a := x; at 2: at 3: f[0w2] := x;")
        self.assertEqual([gap(plan, "set", 0, stage) for stage in (0, 1)], [1, 0])
        self.assertEqual([gap(plan, "put", 0, stage) for stage in (0, 1, 2, 3)], [3, 2, 1, 0])
        # Nothing writes these.
        self.assertEqual([gap(plan, "set", 1, stage) for stage in (0, 3)], [0, 0])
        self.assertEqual([gap(plan, "put", 1, stage) for stage in (0, 3)], [0, 0])

    def test_guessed(self):
        plan = plan_of("at 0: at 1: guess b = b; at 2: at 3: b := 0w8;")
        self.assertEqual([gap(plan, "set", 1, stage) for stage in (0, 1, 2)], [3, 2, 1])


class LastUses(unittest.TestCase):
    def test_last_use(self):
        plan = plan_of("""
        at 0: let x = a; let y = x; let z = y; let w = part(y, 0, 1); let t = c; let g = a; let u = x;
        at 1: let v = x + z; guess a = g;
        at 2: let k = v;
        at 3: a := v; f[w] := z + z when t;
        at 4: b := y when 0w1;
        """)
        names = [row[0] for row in plan[3]]
        uses = {name: last_use(plan, at) for at, name in enumerate(names)}
        self.assertEqual(uses, {"x": 1, "y": 4, "z": 3, "w": 3, "t": 3, "g": 1, "u": 0, "v": 3, "k": 2})


if __name__ == "__main__":
    unittest.main()
