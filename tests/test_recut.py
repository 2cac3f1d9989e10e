"""Promise 7.4."""

import unittest

from machines import made_machine
from stagecut.check import check
from stagecut.errors import Unfit
from stagecut.parser import parse
from stagecut.recut import heaviest, recut

WEIGHTS = {"*": 8, "+": 3, "-": 3, "<": 3, "<<": 3, ">>": 3, "==": 2, "&": 1, "|": 1, "^": 1}


def weight(tree):
    if tree is None or tree[0] in ("lit", "name"):
        return 0
    inner = max(weight(part) for part in tree[1:] if isinstance(part, tuple))
    own = {"read": 4, "not": 1, "pick": 1}.get(tree[0], 0)
    return inner + (WEIGHTS[tree[1]] if tree[0] == "op" else own)


def row_weight(row):
    return max(weight(part) for part in row[2:] if isinstance(part, tuple))


def stage_weight(rows):
    return sum(row_weight(row) for row in rows)


def all_places(rows, many, low=0):
    """All rows of places, the least ones first."""
    if many == 0:
        return [()]
    return [(place, *rest) for place in range(low, rows + 1) for rest in all_places(rows, many - 1, place)]


def slow_recut(tree, many):
    rows = [row for stage in tree[2] for row in stage]
    best = None
    for places in all_places(len(rows), many - 1):
        ends = (0, *places, len(rows))
        cut = (tree[0], tree[1], tuple(tuple(rows[low:high]) for low, high in zip(ends, ends[1:])))
        own = max(stage_weight(stage) for stage in cut[2])
        if best is None or own < best[0]:
            try:
                check(cut)
            except Unfit:
                continue
            best = (own, cut)
    return None if best is None else best[1]


def stage_rows(tree):
    """How many rows the stages have."""
    return [len(rows) for rows in tree[2]]


class Weights(unittest.TestCase):
    def judge(self, text, worth):
        tree = parse("machine m reg a 8; reg b 1; file f 3 8; rom c 8 8; at 0: " + text)
        self.assertEqual(heaviest(tree), worth, text)

    def test_expressions(self):
        for text, worth in (
            ("5w8", 0), ("a", 0), ("f[a]", 4), ("f[5w8]", 4), ("f[f[a]]", 8), ("c[a + a]", 7),
            ("a * a", 8), ("a + a", 3), ("a - a", 3), ("a < a", 3), ("a << a", 3), ("a >> a", 3), ("a == a", 2),
            ("a & a", 1), ("a | a", 1), ("a ^ a", 1), ("~a", 1), ("~~a", 2), ("b ? a : a", 1),
            ("a * a + a", 11), ("a * (a + a)", 11), ("a * a + a * a", 11), ("(a & a) * (a + f[a])", 15),
            ("a < a + a ? a : a", 7), ("b ? a * a : a + a", 9), ("b ? a + a : a * a", 9),
            ("wide(a, 9)", 0), ("wide(a * a, 3)", 8), ("part(a + a, 0, 1)", 3), ("join(a, a)", 0),
            ("join(a, a * a)", 8), ("join(~a, a)", 1), ("(a)", 0), ("f[part(~a, 0, 2)]", 5),
        ):
            self.judge(f"let x = {text};", worth)
            self.judge(f"guess a = {text};", worth)
            self.judge(f"a := {text};", worth)
            self.judge(f"a := {text} when b;", worth)
            self.judge(f"f[a] := {text};", worth)
            self.judge(f"f[{text}] := a;", worth)
            self.judge(f"f[a] := a when {text};", worth)
            self.judge(f"a := a when {text};", worth)

    def test_rows_and_stages(self):
        self.judge("f[a + a] := a * a when ~b;", 8)
        self.judge("f[a * a] := a + a when a & a == f[a];", 8)
        self.judge("a := a + a when f[a] == a * a;", 10)
        self.judge("let x = a + a; let y = ~a; a := a * a;", 12)
        self.judge("let x = a + a; let y = a; at 1: let z = f[a]; at 2: b := a * a == a; at 3:", 10)
        self.judge("at 1: let z = f[a];", 4)
        self.judge("", 0)
        self.assertEqual(heaviest(("m", (), ())), 0)


class Cutting(unittest.TestCase):
    def judge(self, tree, many):
        found = recut(tree, many)
        self.assertEqual(found, slow_recut(tree, many))
        if found is not None:
            self.assertEqual(found[:2], tree[:2])
            self.assertEqual(len(found[2]), many)
            check(found)
            self.assertEqual(heaviest(found), max(stage_weight(rows) for rows in found[2]))
            self.assertEqual([row for rows in found[2] for row in rows], [row for rows in tree[2] for row in rows])
        return found

    def test_as_light_as_can_be(self):
        tree = parse("machine m reg a 8; at 0: let x = a * a; let y = x + a; let z = y + a; let u = z * a; a := u;")
        self.assertEqual(stage_rows(self.judge(tree, 1)), [5])
        self.assertEqual(stage_rows(self.judge(tree, 2)), [2, 3])
        self.assertEqual([heaviest(recut(tree, many)) for many in range(1, 6)], [22, 11, 8, 8, 8])
        for many in (3, 4, 5):
            self.judge(tree, many)

    def test_ways_that_are_as_light(self):
        """The least row of places."""
        tree = parse("machine m reg a 8; at 0: let x = a; let y = a; a := y;")
        for many in range(1, 6):
            self.assertEqual(stage_rows(self.judge(tree, many)), [0] * (many - 1) + [3])
        tree = parse("machine m reg a 8; at 0: let x = a + a; let y = a + a; let z = a + a; let w = a + a;")
        self.assertEqual(stage_rows(self.judge(tree, 2)), [2, 2])
        self.assertEqual(stage_rows(self.judge(tree, 3)), [0, 2, 2])
        self.assertEqual(stage_rows(self.judge(tree, 4)), [1, 1, 1, 1])
        self.assertEqual(stage_rows(self.judge(tree, 5)), [0, 1, 1, 1, 1])

    def test_none_that_fits(self):
        # What is guessed must be written in a later stage.
        tree = parse("machine m reg a 8; at 0: let x = a; guess a = x; at 1: a := x + 1w8;")
        self.assertIsNone(self.judge(tree, 1))
        self.assertEqual(stage_rows(self.judge(tree, 2)), [2, 1])
        # What is read behind the row that writes must stand in its stage.
        tree = parse("machine m reg a 8; at 0: a := a * a; let x = a * a;")
        for many in range(1, 5):
            self.assertEqual(stage_rows(self.judge(tree, many)), [0] * (many - 1) + [2])
        tree = parse("machine m reg a 8; at 0: guess a = 1w8; at 1: a := a;")
        for many in range(1, 5):
            self.assertIsNone(self.judge(tree, many))

    def test_wrong_machines(self):
        for text in ("let x = y;", "a := 1w4;", "let x = a; let x = a;", "guess a = a;"):
            for many in range(1, 4):
                self.assertIsNone(self.judge(parse("machine m reg a 8; at 0: " + text), many))

    def test_split_otherwise_ahead(self):
        texts = ("let x = a * a;", "let y = x + a;", "let z = y & a;", "a := z;")
        trees = []
        for places in all_places(4, 2):
            ends = (0, *places, 4)
            rows = [" ".join(texts[low:high]) for low, high in zip(ends, ends[1:])]
            trees.append(parse(f"machine m reg a 8; at 0: {rows[0]} at 1: {rows[1]} at 2: {rows[2]}"))
        for many in range(1, 6):
            self.assertEqual(len({self.judge(tree, many) for tree in trees}), 1)

    def test_no_rows(self):
        tree = parse("machine m reg a 8; at 0: at 1:")
        for many in range(1, 6):
            self.assertEqual(self.judge(tree, many), ("m", (("reg", "a", 8),), ((),) * many))

    def test_too_many_stages(self):
        tree = parse("machine m reg a 8; at 0: a := a;")
        self.assertEqual(stage_rows(recut(tree, 8)), [0] * 7 + [1])
        self.assertIsNone(recut(tree, 9))
        self.assertIsNone(recut(tree, 0))

    def test_arguments_stay(self):
        tree = made_machine(3, rows=1, stages=4)
        kept = (tree[0], tuple(tree[1]), tuple(tuple(rows) for rows in tree[2]))
        recut(tree, 3)
        self.assertEqual(tree, kept)

    def test_made_ones(self):
        met = set()
        for seed in range(60):
            tree = made_machine(seed, rows=1 + seed % 2)
            if sum(stage_rows(tree)) <= 10:
                for many in range(1, 6):
                    met.add((many, self.judge(tree, many) is None))
        self.assertTrue(met >= {(many, False) for many in range(1, 6)} | {(1, True), (2, True)})


class Large(unittest.TestCase):
    def test_14_rows_and_5_stages(self):
        rows = " ".join(f"let x{at} = a * a;" for at in range(13))
        tree = parse("machine m reg a 8; at 0: " + rows + " a := a;")
        self.assertEqual(stage_rows(recut(tree, 5)), [1, 3, 3, 3, 4])
        # None fits, which is seen behind all ways alone.
        tree = parse("machine m reg a 8; at 0: " + rows + " let x = b;")
        self.assertIsNone(recut(tree, 5))


if __name__ == "__main__":
    unittest.main()
