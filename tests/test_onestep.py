"""Promises 3.1 to 3.3."""

import unittest

from machines import made_machine, made_roms, made_state
from stagecut.check import check, width_of
from stagecut.onestep import start, step, steps
from stagecut.parser import parse


def plan_of(text):
    return check(parse(text))


def worth(text, first=(), items=""):
    """The value of an expression, with some literals in registers r0, r1 and so on, too."""
    plan = plan_of(f"machine m {items} at 0: let x = {text};")
    return step(plan, start(plan, first))[0][0][0]


def naive(sign, one, other, width):
    """What an operation gives, by sums and bits."""
    limit = 2 ** width
    if sign == "<<":
        return one * 2 ** other % limit if other < 64 else 0
    if sign == ">>":
        return one // 2 ** other if other < 64 else 0
    if sign == "==":
        return 1 if one == other else 0
    if sign == "<":
        return 1 if one < other else 0
    if sign in "+-*":
        return {"+": one + other, "-": one - other, "*": one * other}[sign] % limit
    pairs = zip(f"{one:032b}", f"{other:032b}")
    rule = {"&": lambda a, b: a + b == 2, "|": lambda a, b: a + b > 0, "^": lambda a, b: a + b == 1}[sign]
    return int("".join(str(int(rule(int(a), int(b)))) for a, b in pairs), 2)


class Operations(unittest.TestCase):
    def test_bounds_of_widths(self):
        for width in (1, 2, 7, 8, 31, 32):
            top = 2 ** width - 1
            worths = sorted({0, 1, top, top - 1, top // 2, 2 ** (width - 1)})
            for sign in ("+", "-", "*", "&", "|", "^", "==", "<", "<<", ">>"):
                for one in worths:
                    for other in worths:
                        text = f"{one}w{width} {sign} {other}w{width}"
                        self.assertEqual(worth(text), naive(sign, one, other, width), text)

    def test_shifts(self):
        for other in (0, 1, 7, 8, 9, 31, 32, 33, 64, 4294967295):
            self.assertEqual(worth(f"255w8 << {other}w32"), 255 * 2 ** other % 256 if other < 8 else 0)
            self.assertEqual(worth(f"255w8 >> {other}w32"), 255 // 2 ** other if other < 8 else 0)
            self.assertEqual(worth(f"4294967295w32 << {other}w32"), 2 ** 32 - 2 ** other if other < 32 else 0)
            self.assertEqual(worth(f"4294967295w32 >> {other}w32"), 2 ** (32 - other) - 1 if other < 32 else 0)
        self.assertEqual(worth("1w1 << 1w1"), 0)
        self.assertEqual(worth("1w1 >> 1w1"), 0)
        self.assertEqual(worth("1w1 << 0w1"), 1)

    def test_others(self):
        for text, told in (
            ("~0w1", 1), ("~1w1", 0), ("~0w32", 4294967295), ("~5w8", 250), ("1w1 ? 3w8 : 4w8", 3),
            ("0w1 ? 3w8 : 4w8", 4), ("wide(255w8, 32)", 255), ("wide(255w8, 3)", 7), ("wide(8w4, 3)", 0),
            ("wide(1w1, 1)", 1), ("part(180w8, 0, 7)", 180), ("part(180w8, 2, 5)", 13), ("part(180w8, 7, 7)", 1),
            ("part(180w8, 0, 0)", 0), ("part(4294967295w32, 31, 31)", 1), ("join(1w1, 0w31)", 2147483648),
            ("join(0w31, 1w1)", 1), ("join(5w3, 2w2)", 22), ("join(65535w16, 65535w16)", 4294967295),
            ("join(2w2, join(1w1, 0w1))", 10),
        ):
            self.assertEqual(worth(text), told, text)


class States(unittest.TestCase):
    def test_start(self):
        plan = plan_of("machine m reg a 8; rom o 1 4; file f 2 8; reg b 1; rom p 2 2; at 0:")
        self.assertEqual(start(plan, ((5, 6), (0, 1, 2, 3))), ((0, 0), ((5, 6), (0, 0, 0, 0), (0, 1, 2, 3))))
        plan = plan_of("machine m at 0:")
        self.assertEqual(start(plan, ()), ((), ()))
        self.assertEqual(step(plan, ((), ())), (((), ()), ((), ())))


class Steps(unittest.TestCase):
    def test_all_is_read_ahead_of_the_step(self):
        plan = plan_of("""machine m reg a 8; reg b 8; file f 1 8; at 0:
        a := b; b := a; f[0w1] := f[1w1] + a; let x = a + f[0w1]; let y = x + b;
        """)
        state = ((1, 2), ((10, 20),))
        record = ((11, 13), ((0, None, 2), (1, None, 1), (2, 0, 21)))
        self.assertEqual(step(plan, state), (record, ((2, 1), ((21, 20),))))

    def test_tests(self):
        plan = plan_of("""machine m reg a 1; reg b 8; reg c 8; file f 1 8; at 0:
        b := b + 1w8 when a; c := c + 1w8 when ~a; a := ~a; f[a] := 9w8 when a;
        """)
        state = ((0, 5, 6), ((0, 0),))
        record, state = step(plan, state)
        self.assertEqual((record, state), (((), ((1, None, 7), (2, None, 1))), ((1, 5, 7), ((0, 0),))))
        record, state = step(plan, state)
        self.assertEqual((record, state), (((), ((0, None, 6), (2, None, 0), (3, 1, 9))), ((0, 6, 7), ((0, 9),))))

    def test_guesses_do_nothing(self):
        plan = plan_of("machine m reg a 8; at 0: guess a = 77w8; at 1: a := 5w8;")
        self.assertEqual(step(plan, ((3,), ())), (((), ((0, None, 5),)), ((5,), ())))

    def test_roms_stay(self):
        plan = plan_of("machine m reg a 1; rom o 1 8; reg s 8; at 0: a := ~a; s := s + o[a];")
        records, state = steps(plan, start(plan, ((3, 5),)), 3)
        self.assertEqual([record[1][1] for record in records], [(1, None, 3), (1, None, 8), (1, None, 11)])
        self.assertEqual(state, ((1, 11), ((3, 5),)))

    def test_steps_are_many_steps(self):
        for seed in range(40):
            plan = check(made_machine(seed))
            state = made_state(seed, plan)
            self.assertEqual(steps(plan, state, 0), ((), state))
            records = []
            now = state
            for _ in range(5):
                record, now = step(plan, now)
                records.append(record)
            self.assertEqual(steps(plan, state, 5), (tuple(records), now))

    def test_words_fit(self):
        for seed in range(40):
            plan = check(made_machine(seed))
            records, (regs, files) = steps(plan, start(plan, made_roms(seed, plan)), 4)
            for lets, writes in records:
                for told, row in zip(lets, plan[3]):
                    self.assertTrue(0 <= told < 2 ** row[1])
                for at, address, told in writes:
                    self.assertTrue(0 <= told < 2 ** width_of(plan, plan[4][at][4]))
                    self.assertEqual(address is None, plan[4][at][0] == "set")
            for told, (_, width) in zip(regs, plan[1]):
                self.assertTrue(0 <= told < 2 ** width)


if __name__ == "__main__":
    unittest.main()
