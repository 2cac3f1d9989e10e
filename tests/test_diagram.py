"""Promise 5.3."""

import unittest

from machines import made_machine, made_state
from slow import Slow
from stagecut.check import check
from stagecut.diagram import diagram, print_diagram, read_diagram
from stagecut.errors import BadLine
from stagecut.onestep import start
from stagecut.parser import parse

ITEMS = "machine m reg a 8; reg b 8; "


class Diagrams(unittest.TestCase):
    def shown(self, rows, cycles):
        plan = check(parse(ITEMS + rows))
        found = diagram(plan, start(plan, ()), cycles)
        text = print_diagram(found)
        self.assertEqual(read_diagram(text, plan[0]), found)
        return found, text

    def test_going_on(self):
        found, text = self.shown("at 0: at 1: at 2: a := a + 1w8;", 4)
        self.assertEqual(found, ((0, -1, -1), (1, 0, -1), (2, 1, 0), (3, 2, 1)))
        self.assertEqual(text, "cycles 4\n0 1 2 .\n. 0 1 2\n. . 0 1\n. . . 0\n")

    def test_waiting(self):
        found, text = self.shown("at 0: let x = a; at 1: at 2: a := x + b;", 5)
        self.assertEqual(found, ((0, -1, -1), (1, 0, -1), (1, -1, 0), (2, 1, -1), (2, -1, 1)))
        self.assertEqual(text, "cycles 5\n0 1 2 . .\n. 0 0 1 2\n. . . 0 0\n")

    def test_vanishing(self):
        found, text = self.shown("at 0: let x = a; guess a = x; at 1: at 2: a := x + 1w8;", 6)
        self.assertEqual(found, ((0, -1, -1), (1, 0, -1), (2, 1, 0), (3, -1, -1), (4, 3, -1), (5, 4, 3)))
        self.assertEqual(text, "cycles 6\n0 1 2 . . .\n. 0 1 . . .\n. . 0 . . .\n"
                               ". . . 0 1 2\n. . . . 0 1\n. . . . . 0\n")

    def test_no_cycles(self):
        self.assertEqual(self.shown("at 0: at 1:", 0), ((), "cycles 0\n"))
        self.assertEqual(self.shown("at 0:", 1), (((0,),), "cycles 1\n0\n"))

    def test_no_instruction(self):
        self.assertEqual(print_diagram(((-1, -1), (-1, -1), (-1, -1))), "cycles 3\n")
        self.assertEqual(read_diagram("cycles 3\n", 2), ((-1, -1), (-1, -1), (-1, -1)))
        self.assertEqual(read_diagram("cycles 0\n", 2), ())

    def test_instructions_that_are_not_met(self):
        rows = ((-1, 2), (4, -1))
        self.assertEqual(print_diagram(rows), "cycles 2\n. .\n. .\n1 .\n. .\n. 0\n")
        self.assertEqual(read_diagram(print_diagram(rows), 2), rows)

    def test_many_cycles(self):
        rows = tuple((at,) for at in range(12))
        lines = print_diagram(rows).split("\n")
        self.assertEqual(lines[0], "cycles 12")
        self.assertEqual(lines[11], " ".join(["."] * 10 + ["0", "."]))
        self.assertEqual(read_diagram(print_diagram(rows), 1), rows)

    def test_made_ones(self):
        for seed in range(80):
            plan = check(made_machine(seed))
            state = made_state(seed, plan)
            found = diagram(plan, state, 20)
            slow = Slow(plan, (state,))
            self.assertEqual(found, tuple(slow.cycle()[1] for _ in range(20)))
            self.assertEqual(read_diagram(print_diagram(found), plan[0]), found)


class Wrong(unittest.TestCase):
    def bad(self, text, line, slots=3):
        with self.assertRaises(BadLine) as caught:
            read_diagram(text, slots)
        self.assertEqual(caught.exception.line, line, repr(text))

    def test_ends(self):
        for text in ("", "cycles 0", "cycles 2\n0 1", "cycles 2\n0 1\n. 0", "cycles 2\n0\n0", "\n", "\n\n", " "):
            self.bad(text, 1)

    def test_first_lines(self):
        for line in ("cycles", "cycles ", "cycles x", "cycles -1", "cycles +1", "cycles 00", "cycles 02", "cycles 2 ",
                     "cycles  2", " cycles 2", "cycles 2 2", "Cycles 2", "cycle 2", "2", "cycles\t2", "cycles 2w8",
                     "cycles \xb2", "cycles \u0662", "cycles2", "cycles 2\r", "cycles 1_0", "0 1"):
            self.bad(line + "\n0 1\n", 1)
            self.bad(line + "\n", 1)

    def test_parts(self):
        for line in ("0", "0 1 2", "", " ", "0  1", "0 1 ", " 0 1", "0", ". .  ", "0 3", "0 10", "0 x", "0 -1", "0 01",
                     "0 ..", "0 *", "0\t1", "0 1\r", "0 ", " .", "0 \xb2", "0 \u0661", "0 00", "0 +1"):
            self.bad(f"cycles 2\n{line}\n", 2)
            self.bad(f"cycles 2\n. .\n. 0\n{line}\n0 .\n", 4)

    def test_one_part(self):
        self.bad("cycles 1\n\n", 2)
        self.bad("cycles 0\n\n", 2)
        self.bad("cycles 0\n.\n", 2)
        self.bad("cycles 0\n0\n", 2)
        self.bad("cycles 1\n0\n\n", 3)

    def test_slots(self):
        self.assertEqual(read_diagram("cycles 2\n2 1\n", 3), ((-1, -1, 0), (-1, 0, -1)))
        self.bad("cycles 2\n2 1\n", 2, slots=2)
        self.bad("cycles 1\n8\n", 2, slots=8)
        self.assertEqual(read_diagram("cycles 1\n7\n", 8), ((-1,) * 7 + (0,),))

    def test_slots_that_are_taken(self):
        self.bad("cycles 2\n0 1\n0 .\n", 3)
        self.bad("cycles 2\n0 1\n. 1\n", 3)
        self.bad("cycles 2\n0 1\n1 .\n. .\n2 1\n1 1\n", 5)
        self.assertEqual(read_diagram("cycles 2\n0 1\n1 0\n", 2), ((0, 1), (1, 0)))

    def test_the_first_one_is_told(self):
        self.bad("cycles 2\n0 1\n0 x\n0\n", 3)
        self.bad("cycles 02\n0\n", 1)
        self.bad("cycles 1000000000000\n0 1\n", 2)

    def test_many_digits(self):
        """A number of thousands of digits is a number; the line with too few parts is what is wrong."""
        for many in (3000, 4300, 4301, 5000, 20000):
            self.bad("cycles " + "9" * many + "\n.\n", 2)
            self.bad("cycles 0" + "9" * many + "\n.\n", 1)


if __name__ == "__main__":
    unittest.main()
