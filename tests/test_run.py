"""Promises 14.1 and 14.2, and 4.1 to 4.8 with 5.3 once more: in which cycle what is done, who waits, what was wrong."""

import contextlib
import unittest
from unittest import mock

from machines import made_machine, made_roms
from slow import Slow
from stagecut.balance import balance
from stagecut.blast import words_told
from stagecut.build import build, record_of
from stagecut.check import check
from stagecut.diagram import diagram, print_diagram, read_diagram
from stagecut.errors import BadCode, BadNumber, Unexpected, Unfit
from stagecut.gates import is_net, run_net
from stagecut.library import forms_text, machine_text
from stagecut.onestep import start, steps
from stagecut.parser import parse
from stagecut.pipeline import Pipeline, run_pipeline
from stagecut.run import (assemble_text, by_gates, by_rows, by_steps, by_tables, compile_text, first_difference, net_of,
                          run_text, speed)

ADDS = "load 0 5; load 1 7; add 2 0 1; take 3 2 0; add 2 2 2; rest; add 3 3 3;"
JUMPS = "load 5; next: add 3; loop next; add 100; rest; loop end; end: add 1; loop 0;"
# Reading what the one ahead writes in the last stage, and writing where a word tells.
WAITS = """machine waits
reg n 3;
file f 1 4;
rom code 2 4;
at 0:
  let now = n;
at 1:
  let word = code[part(now, 0, 1)];
  let old = f[part(word, 0, 0)];
at 2:
  n := now + 1w3;
at 3:
  f[part(word, 1, 1)] := old + word when part(word, 3, 3) == 1w1;
"""


def plan_and_roms(name, code):
    plan = compile_text(machine_text(name))
    return plan, assemble_text(plan, forms_text(name), code)


class Texts(unittest.TestCase):
    def test_plans(self):
        for name in ("counter", "adder", "jumper"):
            self.assertEqual(compile_text(machine_text(name)), check(parse(machine_text(name))))
        with self.assertRaises(Unexpected):
            compile_text("machine m at 0: let")
        with self.assertRaises(Unfit) as caught:
            compile_text("machine m reg a 1; at 0: let a = 0w1;")
        self.assertEqual((caught.exception.stage, caught.exception.index, caught.exception.word), (0, 0, "twice"))

    def test_words(self):
        plan, roms = plan_and_roms("adder", (ADDS,))
        self.assertEqual(len(roms), 1)
        self.assertEqual(len(roms[0]), 16)
        self.assertEqual(roms[0][:3], (0x405, 0x507, 0xa10))
        self.assertEqual(assemble_text(compile_text(machine_text("counter")), "", ()), ())

    def test_several_roms(self):
        plan = compile_text("machine m rom a 1 8; file f 3 5; rom b 2 4; at 0: let x = join(a[0w1], b[0w2]);")
        words = assemble_text(plan, "one = 1w4, x:4; two = y:4;", ("one 5; e: one e;", "two 9; two 15; go: two go;"))
        self.assertEqual(words, ((0x15, 0x11), (9, 15, 2, 0)))
        told = run_text("machine m rom a 1 8; rom b 2 4; at 0: let x = join(a[0w1], b[0w2]);",
                        "one = 1w4, x:4; two = y:4;", ("one 5;", "two 9;"), 2)
        self.assertEqual(told, (((0x159,), ()),) * 2)
        told = run_text("machine m rom a 1 8; rom b 2 4; at 0: let x = join(a[1w1], b[2w2]);",
                        "one = 1w4, x:4; two = y:4;", ("one 0; one 5;", "two 9; two 8; two 7;"), 2)
        self.assertEqual(told, (((0x157,), ()),) * 2)

    def test_wrong_codes(self):
        plan = compile_text(machine_text("adder"))
        for code, error in (("what;", BadCode), ("load 0 256;", BadCode), ("load", Unexpected), ("load 01;", BadNumber),
                            ("rest;" * 17, BadCode)):
            with self.assertRaises(error):
                assemble_text(plan, forms_text("adder"), (code,))
        with self.assertRaises(Unexpected):
            assemble_text(plan, "rest = 0w12", (ADDS,))


class Told(unittest.TestCase):
    """What is told in each cycle, by the pipeline told word by word and by all others."""

    def judge(self, plan, roms, cycles, sizes=(2, 3, 4, 5, 6)):
        slow = Slow(plan, (start(plan, roms),))
        expected = []
        rows = []
        for _ in range(cycles):
            done, seen = slow.cycle()
            expected.append(done[0][2] if done else None)
            rows.append(seen)
        told = by_steps(plan, roms, cycles)
        self.assertIs(type(told), tuple)
        self.assertEqual(told, tuple(expected))
        records = tuple(record for record in told if record is not None)
        self.assertEqual(records, steps(plan, start(plan, roms), len(records))[0])
        self.assertGreaterEqual(len(records), cycles // (plan[0] + 1))
        self.assertEqual(by_rows(plan, roms, cycles), told)
        self.assertEqual(by_gates(plan, roms, cycles), told)
        for size in sizes:
            self.assertEqual(by_tables(plan, roms, size, cycles), told)
        self.assertIsNone(first_difference(plan, roms, cycles))
        self.assertEqual(speed(plan, roms, cycles), (len(records), tuple(slow.waited), slow.missed))
        found = diagram(plan, start(plan, roms), cycles)
        self.assertEqual(found, tuple(rows))
        self.assertEqual(read_diagram(print_diagram(found), plan[0]), found)
        return told

    def test_library(self):
        for name, code in (("counter", ()), ("adder", (ADDS,)), ("jumper", (JUMPS,))):
            plan, roms = plan_and_roms(name, code)
            told = self.judge(plan, roms, 24)
            self.assertEqual(run_text(machine_text(name), forms_text(name), code, 24), told)

    def test_no_cycles(self):
        plan, roms = plan_and_roms("jumper", (JUMPS,))
        self.assertEqual(self.judge(plan, roms, 0), ())
        self.assertEqual(run_text(machine_text("jumper"), forms_text("jumper"), (JUMPS,), 0), ())
        self.assertEqual(speed(plan, roms, 0), (0, (0, 0, 0), 0))

    def test_few_cycles(self):
        plan, roms = plan_and_roms("adder", (ADDS,))
        for cycles in range(1, 6):
            self.assertEqual(sum(record is None for record in self.judge(plan, roms, cycles, (3,))), min(3, cycles))

    def test_made_ones(self):
        for seed in range(40):
            plan = check(made_machine(seed, stages=1 + seed % 8))
            self.judge(plan, made_roms(seed, plan), 20, (2 + seed % 5,))

    def test_waiting(self):
        plan = compile_text(WAITS)
        # It reads what it writes; it writes what the next one reads; it does not write.
        for roms in (((0b1011, 0b1011, 0b1011, 0b1011),), ((0b1010, 0b0001, 0b1110, 0b1001),), ((0, 0, 0, 0),)):
            self.judge(plan, roms, 30)

    def test_nothing_is_told_but_that_it_is_done(self):
        plan = compile_text("machine m at 0: at 1: at 2:")
        self.assertEqual(self.judge(plan, (), 5), (None, None, ((), ()), ((), ()), ((), ())))


class Times(unittest.TestCase):
    def test_when_it_is_done(self):
        plan = compile_text("machine m reg a 4; at 0: let x = a; at 1: at 2: a := x + 1w4;")
        # In stage 0 one waits until the value of the one ahead is known, which is at once: it hangs on a let alone.
        self.assertEqual([cycle for cycle, _ in run_pipeline(plan, start(plan, ()), 8)], [2, 3, 4, 5, 6, 7])
        self.assertEqual(speed(plan, (), 8), (6, (0, 0, 0), 0))
        # Here it is known in the stage of its row, 2.
        plan = compile_text("machine m reg a 4; reg b 4; at 0: let x = a; at 1: at 2: a := x + b; b := b + 1w4;")
        self.assertEqual([cycle for cycle, _ in run_pipeline(plan, start(plan, ()), 9)], [2, 4, 6, 8])
        self.assertEqual(speed(plan, (), 9), (4, (4, 0, 0), 0))

    def test_wrong_guesses(self):
        plan = compile_text("machine m reg a 3; at 0: let x = a; guess a = x; at 1: at 2: a := x + 1w3;")
        # Each guess is wrong: what came behind vanishes, and the next one comes in a cycle later.
        self.assertEqual([cycle for cycle, _ in run_pipeline(plan, start(plan, ()), 12)], [2, 5, 8, 11])
        self.assertEqual(speed(plan, (), 12), (4, (0, 0, 0), 4))
        plan = compile_text("machine m reg a 3; at 0: let x = a; guess a = x + 1w3; at 1: at 2: a := x + 1w3;")
        self.assertEqual(speed(plan, (), 12), (10, (0, 0, 0), 0))
        # Wrong once in four.
        plan = compile_text("machine m reg a 3; at 0: let x = a; guess a = x + 1w3; at 1: a := x == 3w3 ? 0w3 : x + 1w3;")
        self.assertEqual([cycle for cycle, _ in run_pipeline(plan, start(plan, ()), 12)], [1, 2, 3, 4, 6, 7, 8, 9, 11])
        self.assertEqual(speed(plan, (), 12), (9, (0, 0), 2))

    def test_waiting_and_then_vanishing(self):
        # The one in stage 0 waits for b, in the very cycle in which the guess of the one ahead is wrong.
        plan = compile_text("machine m reg a 2; reg b 2; at 0: let x = a; guess a = x; let y = b; at 1:"
                            "a := x + 1w2; let z = b; b := z + 1w2;")
        slow = Slow(plan, (start(plan, ()),))
        done = sum(len(slow.cycle()[0]) for _ in range(10))
        self.assertEqual(speed(plan, (), 10), (done, tuple(slow.waited), slow.missed))
        self.assertGreater(slow.missed, 3)

    def test_speed_of_pipelines(self):
        for name, code in (("adder", (ADDS,)), ("jumper", (JUMPS,))):
            plan, roms = plan_and_roms(name, code)
            for cycles in (1, 7, 30):
                pipeline = Pipeline(plan, start(plan, roms))
                done = sum(len(pipeline.cycle()) for _ in range(cycles))
                found = speed(plan, roms, cycles)
                self.assertEqual(found, (done, tuple(pipeline.waited), pipeline.missed))
                self.assertIs(type(found), tuple)
                self.assertIs(type(found[1]), tuple)
        self.assertGreater(speed(*plan_and_roms("jumper", (JUMPS,)), 30)[2], 3)


class Differences(unittest.TestCase):
    def test_wrong_pipelines(self):
        """A plan that check would not give: a register is written by what is taken back later."""
        plan = compile_text("machine m reg pc 2; reg sum 3; rom code 2 3; at 0: let here = pc; guess pc = here + 1w2;"
                            "at 1: let word = code[here]; at 2: at 3: pc := part(word, 0, 1); sum := sum + word;")
        wrong = (*plan[:4], (plan[4][0], (*plan[4][1][:2], 1, *plan[4][1][3:])), plan[5])
        roms = ((3, 7, 5, 2),)
        self.assertIsNone(first_difference(plan, roms, 20))
        self.assertEqual(first_difference(wrong, roms, 20), "pipeline")
        self.assertIsNone(first_difference(wrong, roms, 4))

    def test_the_first_that_does_not(self):
        """With something else in the place of some, the first of them is told."""
        plan, roms = plan_and_roms("jumper", (JUMPS,))
        told = by_steps(plan, roms, 12)
        other = (*told[:11], told[10])
        self.assertNotEqual(told, other)
        names = ("rows", "gates", "tables")
        for at, name in enumerate(names):
            for many in range(1, 4 - at):
                with contextlib.ExitStack() as stack:
                    for wrong in names[at:at + many]:
                        stack.enter_context(mock.patch(f"stagecut.run.by_{wrong}", return_value=other))
                    self.assertEqual(first_difference(plan, roms, 12), name)
        self.assertIsNone(first_difference(plan, roms, 12))


class Nets(unittest.TestCase):
    def test_small_nets(self):
        for seed in range(12):
            plan = check(made_machine(seed, stages=3))
            roms = made_roms(seed, plan)
            net = net_of(plan, roms)
            self.assertTrue(is_net(net))
            circuit = build(plan)
            for other in (net, balance(net)):
                told = tuple(record_of(plan, words_told(circuit, bits)) for bits in run_net(other, 12))
                self.assertEqual(told, by_steps(plan, roms, 12))


if __name__ == "__main__":
    unittest.main()
