"""Promises 7.2 and 7.3."""

import unittest

from machines import made_machine, made_roms
from stagecut.build import record_of
from stagecut.build_step import build_step, watch, watch_contents
from stagecut.check import check
from stagecut.circuit import is_circuit, widths_of
from stagecut.circuit_run import run_circuit
from stagecut.fold import fold
from stagecut.onestep import start, step, steps
from stagecut.parser import parse
from stagecut.pipeline import Pipeline

MIXED = """machine m reg p 2; rom c 2 8; file f 1 8; rom d 1 4; file g 2 4;
at 0: let w = c[p]; let v = f[part(w, 0, 0)];
at 1: let u = d[part(v, 0, 0)]; f[part(w, 1, 1)] := v + w when part(w, 2, 2);
at 2: let t = g[part(w, 2, 3)]; g[part(w, 0, 1)] := t + u + part(v, 0, 3); p := p + 1w2;
"""
MIXED_ROMS = ((3, 6, 5, 12), (9, 2))


class Steps(unittest.TestCase):
    def judge(self, plan, roms, cycles=20):
        circuit = build_step(plan)
        self.assertIs(is_circuit(circuit), True)
        self.assertEqual(circuit[0], tuple((width, 0) for _, width in plan[1]))
        self.assertEqual(circuit[1], tuple((bits, width) for _, bits, width, _ in plan[2]))
        state = start(plan, roms)
        told = run_circuit(circuit, state[1], cycles)
        self.assertEqual(tuple(record_of(plan, row) for row in told), steps(plan, state, cycles)[0])
        self.assertEqual(tuple(record_of(plan, row) for row in run_circuit(fold(circuit), state[1], cycles)),
                         steps(plan, state, cycles)[0])

    def test_small(self):
        self.judge(check(parse("machine m at 0: at 1:")), ())
        plan = check(parse("machine m reg a 8; reg b 1; at 0: let x = a; at 1: a := x + 1w8; at 2: b := ~b when b;"))
        self.judge(plan, ())

    def test_all_from_the_state_ahead(self):
        plan = check(parse("machine m reg a 8; reg b 8; file f 1 8; at 0: a := b + 1w8; b := a; f[0w1] := f[0w1] + b;"
                           " let x = f[0w1];"))
        self.judge(plan, ())

    def test_files_and_roms(self):
        self.judge(check(parse(MIXED)), MIXED_ROMS, 40)

    def test_made_ones(self):
        for seed in range(150):
            plan = check(made_machine(seed))
            self.judge(plan, made_roms(seed, plan))


def first_step_that_differs(plan, state, other, many):
    """The number of the first step whose record from another state is another one, None if there is none."""
    for at in range(many):
        record, state = step(plan, state)
        other_record, other = step(plan, other)
        if record != other_record:
            return at
    return None


class Watching(unittest.TestCase):
    def test_the_pipeline_does_the_steps(self):
        for seed in range(120):
            plan = check(made_machine(seed))
            state = start(plan, made_roms(seed, plan))
            circuit = watch(plan)
            self.assertIs(is_circuit(circuit), True)
            widths = widths_of(circuit)
            self.assertEqual([widths[row] for row in circuit[5]], [1, 1])
            contents = watch_contents(plan, state[1])
            pipeline = Pipeline(plan, state)
            expected = tuple((len(pipeline.cycle()), 0) for _ in range(25))
            self.assertEqual(run_circuit(circuit, contents, 25), expected)
            self.assertEqual(run_circuit(fold(circuit), contents, 25), expected)

    def test_memories(self):
        plan = check(parse(MIXED))
        self.assertEqual(watch(plan)[1], ((2, 8), (1, 8), (1, 4), (2, 4), (1, 8), (2, 4)))
        contents = ((3, 6, 5, 12), (1, 2), (9, 2), (4, 5, 6, 7))
        self.assertEqual(watch_contents(plan, contents), contents + ((1, 2), (4, 5, 6, 7)))
        for text, many in (("machine m at 0:", 0), ("machine m rom c 1 8; at 0:", 1), ("machine m file f 1 8; at 0:", 2)):
            plan = check(parse(text))
            self.assertEqual(len(watch(plan)[1]), many)
            self.assertEqual(len(watch_contents(plan, tuple((1, 2) for _ in plan[2]))), many)

    def test_any_contents(self):
        """The pipeline does the steps from any contents of the files, too."""
        plan = check(parse(MIXED))
        contents = ((3, 6, 5, 12), (1, 2), (9, 2), (4, 5, 6, 7))
        told = run_circuit(watch(plan), watch_contents(plan, contents), 40)
        self.assertEqual({row[1] for row in told}, {0})
        self.assertGreater(sum(row[0] for row in told), 10)

    def judge_other(self, plan, contents, other):
        """The step's files have other words: told at the first thing done otherwise, and not earlier."""
        given = list(watch_contents(plan, contents))
        behind = len(plan[2])
        for number, row in enumerate(plan[2]):
            if not row[3]:
                given[behind] = other[number]
                behind += 1
        told = run_circuit(watch(plan), tuple(given), 60)
        regs = (0,) * len(plan[1])
        first = first_step_that_differs(plan, (regs, contents), (regs, other), sum(row[0] for row in told))
        done = 0
        for is_done, is_other in told:
            if is_done and done == first:
                self.assertEqual(is_other, 1)
                return True
            self.assertEqual(is_other, 0)
            done += is_done
        self.assertIsNone(first)
        return False

    def test_the_file_of_the_step_begun_otherwise(self):
        plan = check(parse(MIXED))
        contents = ((3, 6, 5, 12), (1, 2), (9, 2), (4, 5, 6, 7))
        found = 0
        for number in (1, 3):
            for at in range(len(contents[number])):
                for bit in range(plan[2][number][2]):
                    words = list(contents[number])
                    words[at] ^= 1 << bit
                    other = contents[:number] + (tuple(words),) + contents[number + 1:]
                    found += self.judge_other(plan, contents, other)
        self.assertGreater(found, 10)

    def test_each_kind_of_difference(self):
        """What is read from the file is seen in a let, a test, a value or an address alone."""
        for row, differs in (
            ("let x = f[p];", True), ("q := 5w8 when part(f[p], 0, 0);", True), ("q := f[p];", True),
            ("g[part(f[p], 0, 0)] := 1w8;", True), ("g[0w1] := f[p];", True), ("q := f[p] when p == 1w2;", False),
            ("q := f[p] when p == 2w2;", True), ("g[part(f[p], 0, 0)] := f[p] when p == 3w2;", False),
        ):
            plan = check(parse("machine m reg p 2; reg q 8; file f 2 8; file g 1 8; at 0: " + row
                               + "at 1: p := p + 1w2;"))
            contents = ((0, 0, 0, 0), (0, 0))
            other = ((0, 0, 1, 0), (0, 0))
            self.assertEqual(self.judge_other(plan, contents, other), differs, row)

    def test_made_ones_begun_otherwise(self):
        found = 0
        for seed in range(60):
            plan = check(made_machine(seed))
            contents = start(plan, made_roms(seed, plan))[1]
            for number, row in enumerate(plan[2]):
                if not row[3]:
                    other = contents[:number] + ((1,) + contents[number][1:],) + contents[number + 1:]
                    found += self.judge_other(plan, contents, other)
        self.assertGreater(found, 5)


if __name__ == "__main__":
    unittest.main()
