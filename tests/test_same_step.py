"""Promise 10.3."""

import random
import unittest

from machines import made_machine
from stagecut.check import check
from stagecut.errors import TooMany
from stagecut.onestep import step
from stagecut.parser import parse
from stagecut.recut import recut
from stagecut.same_step import same_step
from stagecut.simplify import simplify

MANY = 100000


def plan_of(text):
    return check(parse("machine m " + text))


def state_of(plan, bits):
    """The state of a plan with these bits."""
    at = 0
    words = []
    widths = [width for _, width in plan[1]]
    for _, size, width, _ in plan[2]:
        widths += [width] * 2 ** size
    for width in widths:
        words.append(sum(bit * 2 ** place for place, bit in enumerate(bits[at:at + width])))
        at += width
    assert at == len(bits)
    regs = tuple(words[:len(plan[1])])
    files = []
    at = len(plan[1])
    for _, size, _, _ in plan[2]:
        files.append(tuple(words[at:at + 2 ** size]))
        at += 2 ** size
    return (regs, tuple(files))


class Steps(unittest.TestCase):
    def judge(self, one, other, most=MANY):
        """None, or a state that is seen to lead to different ones."""
        found = same_step(one, other, most)
        if found is None:
            # Some states by chance, too.
            chance = random.Random(1)
            many = sum(width for _, width in one[1]) + sum(width * 2 ** bits for _, bits, width, _ in one[2])
            for _ in range(20):
                state = state_of(one, tuple(chance.randint(0, 1) for _ in range(many)))
                self.assertEqual(step(one, state)[1], step(other, state)[1])
            return None
        self.assertIs(type(found), tuple)
        self.assertTrue(all(type(bit) is int and bit in (0, 1) for bit in found))
        state = state_of(one, found)
        self.assertNotEqual(step(one, state)[1], step(other, state)[1])
        return state

    def test_said_otherwise(self):
        items = "reg a 8; reg b 8; "
        one = plan_of(items + "at 0: a := a + b; b := ~b when a == 3w8;")
        for text in (
            "at 0: let x = b + a; a := x; b := a == 3w8 ? ~b : b;",
            "at 0: let x = a; let y = b; at 1: let s = x - (0w8 - y); at 2: a := s; at 3: b := y ^ 255w8 when x == 3w8;",
            "at 0: let x = a; let t = x == 3w8; guess a = x + 1w8; at 1: at 2: a := x + b; b := t ? ~b : b;",
            "at 0: b := ~b when ~(a < 3w8) & (a < 4w8); a := (a & b) + (a | b);",
        ):
            self.assertIsNone(self.judge(one, plan_of(items + text)))

    def test_cut_otherwise(self):
        tree = parse("machine m reg p 2; reg a 4; rom c 2 4; file f 2 4; at 0: let w = c[p]; let x = f[part(w, 0, 1)]; "
                     "let y = x + a; f[part(w, 2, 3)] := y; a := y ^ w when part(x, 0, 0); p := p + 1w2;")
        for many in range(1, 6):
            self.assertIsNone(self.judge(check(tree), check(recut(tree, many))))

    def test_simpler(self):
        many = 0
        for seed in range(80):
            tree = made_machine(seed, depth=2)
            try:
                self.assertIsNone(self.judge(check(tree), check(simplify(tree)), 20000))
                many += 1
            except TooMany:
                continue
        self.assertGreater(many, 70)

    def test_one_row_differs(self):
        text = ("reg a 8; reg b 8; file f 2 8; at 0: let x = f[part(a, 0, 1)]; let y = x + b; "
                "let z = y & a; at 1: a := y when part(b, 7, 7); b := b - 1w8; f[part(b, 0, 1)] := z when x < 200w8;")
        one = plan_of(text)
        for old, new in (
            ("x + b", "x - b"), ("x + b", "x | b"), ("7, 7", "6, 6"), ("b - 1w8", "b + 1w8"), ("b - 1w8", "b - 2w8"),
            ("y & a", "y"), ("x < 200w8", "x < 201w8"), (" when x < 200w8", ""), (" when part(b, 7, 7)", ""),
            ("f[part(b, 0, 1)]", "f[part(b, 1, 2)]"), ("f[part(a, 0, 1)]", "f[part(a, 2, 3)]"), ("a := y", "a := z"),
            ("b - 1w8", "b == 77w8 ? 0w8 : b - 1w8"),
        ):
            self.assertIsNotNone(self.judge(one, plan_of(text.replace(old, new, 1))), new)
            self.assertIsNotNone(self.judge(plan_of(text.replace(old, new, 1)), one), new)

    def test_in_one_state_alone(self):
        one = plan_of("reg a 32; reg b 5; at 0: a := a == 3735928559w32 & b == 21w5 ? 0w32 : a;")
        other = plan_of("reg a 32; reg b 5; at 0: a := a;")
        self.assertEqual(self.judge(one, other), ((3735928559, 21), ()))
        self.assertEqual(self.judge(other, one), ((3735928559, 21), ()))

    def test_roms_are_a_part_of_the_state(self):
        one = plan_of("reg a 3; rom c 1 3; at 0: a := c[part(a, 0, 0)];")
        for text, differs in (("a := part(a, 0, 0) ? c[1w1] : c[0w1];", False), ("a := c[0w1];", True),
                              ("a := part(a, 0, 0) ? c[1w1] : 0w3;", True), ("a := c[part(a, 1, 1)];", True)):
            other = plan_of("reg a 3; rom c 1 3; at 0: " + text)
            self.assertEqual(self.judge(one, other) is not None, differs, text)
        # What differs only where two words of the rom are something.
        other = plan_of("reg a 3; rom c 1 3; at 0: let s = c[0w1] == 5w3 & c[1w1] == 6w3; "
                        "a := s ? 0w3 : c[part(a, 0, 0)];")
        state = self.judge(one, other)
        self.assertEqual(state[1], ((5, 6),))

    def test_what_is_in_the_state_only(self):
        """Lets and what rows tell may differ, if the states behind the step are the same."""
        items = "reg a 4; file f 1 4; "
        one = plan_of(items + "at 0: let x = a; a := x; f[0w1] := f[0w1];")
        for text in ("", "let y = ~a; let z = y;", "f[1w1] := 3w4 when 0w1;", "f[part(a, 0, 0)] := f[part(a, 0, 0)];"):
            self.assertIsNone(self.judge(one, plan_of(items + "at 0: " + text)))
        self.assertIsNotNone(self.judge(one, plan_of(items + "at 0: f[0w1] := a;")))

    def test_nothing(self):
        self.assertIsNone(self.judge(plan_of("at 0:"), plan_of("at 0: at 1:")))
        self.assertIsNone(self.judge(plan_of("reg a 1;at 0:"), plan_of("reg b 1; at 0: b := b;")))

    def test_words_of_machines(self):
        """Sums of two words and codes of a rom do not need many nodes."""
        items = "reg p 4; rom c 4 8; reg a 16; reg b 16; at 0: let w = c[p]; let o = part(w, 6, 7); p := p + 1w4; b := a; "
        one = plan_of(items + "a := o == 0w2 ? a + b : o == 1w2 ? a - b : a ^ b;")
        other = plan_of(items + "a := o == 1w2 ? a + ~b + 1w16 : o == 0w2 ? b + a : (a | b) - (a & b);")
        self.assertIsNone(self.judge(one, other))


class Limits(unittest.TestCase):
    def test_orders_of_variables(self):
        """Machines of which only the one or the other order of the variables has small diagrams."""
        sums = plan_of("reg a 16; reg b 16; at 0: a := a + b;")
        others = check(made_machine(68))
        for plan in (sums, others):
            self.assertIsNone(same_step(plan, plan, 1000 if plan == others else 3000))

    def test_few_nodes(self):
        one = plan_of("reg a 8; reg b 8; at 0: a := a + b;")
        other = plan_of("reg a 8; reg b 8; at 0: a := b + a;")
        for most in (2, 3, 10):
            with self.assertRaises(TooMany):
                same_step(one, other, most)
        self.assertIsNone(same_step(one, other, MANY))


if __name__ == "__main__":
    unittest.main()
