"""Promises 0.4 and 0.5: nested texts and large machines."""

import unittest

from machines import made_machine, made_state
from stagecut.check import check
from stagecut.onestep import start, step, steps
from stagecut.parser import parse, parse_expr
from stagecut.pipeline import Pipeline, drained
from stagecut.printing import print_expr, print_machine
from stagecut.simplify import simplify

DEEP = 40
# What an expression is put into, again and again.
NESTS = (
    ("(", ")"), ("~(", ")"), ("wide(", ", 8)"), ("part(", ", 0, 7)"), ("part(join(", ", a), 0, 7)"), ("f[", "]"),
    ("a + (", ")"), ("(", ") * a"), ("b ? (", ") : a"), ("b ? a : (", ")"), ("(", ") == a ? a : 1w8"),
    ("a | a ^ a & (a << a + a * (", "))"), ("~~~(", ")"),
)


def nested(nest, text="a"):
    return nest[0] * DEEP + text + nest[1] * DEEP


class Nested(unittest.TestCase):
    def test_expressions(self):
        for nest in NESTS:
            text = nested(nest)
            tree = parse_expr(text)
            self.assertEqual(parse_expr(print_expr(tree)), tree)
        self.assertEqual(parse_expr(nested(("(", ")"))), ("name", "a"))
        self.assertEqual(print_expr(parse_expr(nested(("~(", ")")))), "~" * DEEP + "a")
        for nest in (("wide(", ", 8)"), ("f[", "]"), ("part(", ", 0, 7)")):
            self.assertEqual(print_expr(parse_expr(nested(nest))), nested(nest))

    def test_machines(self):
        rows = "".join(f"let x{at} = {nested(nest)};" for at, nest in enumerate(NESTS) if nest[0] != "f[")
        deep = "f[" * DEEP + "1w6" + "]" * DEEP
        text = "machine m reg a 8; reg b 1; file f 6 6; at 0:" + rows + f"let y = {deep}; a := a + 1w8; b := ~b;"
        tree = parse(text)
        self.assertEqual(parse(print_machine(tree)), tree)
        plan = check(tree)
        state = start(plan, ())
        records, end = steps(plan, state, 5)
        self.assertEqual(steps(check(simplify(tree)), state, 5), (records, end))
        self.assertEqual(records[3][0][0], 3)
        self.assertEqual(drained(plan, state, 5), (records, end))


class Large(unittest.TestCase):
    def test_200_rows(self):
        rows = ["at 0: let x0 = a;"]
        for at in range(1, 199):
            if at % 25 == 0:
                rows.append(f"at {at // 25}:")
            rows.append(f"let x{at} = x{at - 1} + {at % 7}w32;")
        rows.append("a := x198;")
        tree = parse("machine m reg a 32; " + "\n".join(rows))
        self.assertEqual(parse(print_machine(tree)), tree)
        plan = check(tree)
        self.assertEqual((plan[0], len(plan[3])), (8, 199))
        state = start(plan, ())
        records, end = drained(plan, state, 4)
        # Each instruction waits in slot 0 until the value of the one ahead of it is known.
        self.assertEqual(len(records), 5)
        self.assertEqual((records, end), steps(plan, state, 5))
        self.assertEqual(end[0][0], 5 * sum(at % 7 for at in range(1, 199)))

    def test_many_made_rows(self):
        for seed in range(3):
            tree = made_machine(seed, stages=8, rows=40)
            self.assertGreater(sum(len(rows) for rows in tree[2]), 100)
            self.assertEqual(parse(print_machine(tree)), tree)
            plan = check(tree)
            state = made_state(seed, plan)
            records, end = drained(plan, state, 6)
            self.assertEqual((records, end), steps(plan, state, len(records)))


class Kept(unittest.TestCase):
    def test_what_is_returned_is_plain(self):
        for seed in range(20):
            plan = check(made_machine(seed))
            state = made_state(seed, plan)
            self.only_plain(plan)
            self.only_plain(step(plan, state))
            pipeline = Pipeline(plan, state)
            for _ in range(12):
                self.only_plain(pipeline.cycle())
                self.only_plain(pipeline.state())

    def only_plain(self, thing):
        """Tuples, strings, integers and None; truths only where roms are told."""
        if type(thing) is tuple:
            for part in thing:
                self.only_plain(part)
        else:
            self.assertIn(type(thing), (int, str, bool, type(None)))

    def test_no_truths_among_words(self):
        for seed in range(20):
            plan = check(made_machine(seed))
            state = made_state(seed, plan)
            for (lets, writes), regs in ((step(plan, state)[0], step(plan, state)[1][0]),):
                self.assertTrue(all(type(told) is int for told in lets + regs))
                self.assertTrue(all(type(told) is int for _, _, told in writes))


if __name__ == "__main__":
    unittest.main()
