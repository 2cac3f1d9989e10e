"""Promise 7.1."""

import unittest

from machines import made_machine, made_roms
from stagecut.build import build, record_of
from stagecut.check import check
from stagecut.circuit import is_circuit, widths_of
from stagecut.circuit_run import run_circuit
from stagecut.fold import fold
from stagecut.onestep import start
from stagecut.parser import parse
from stagecut.pipeline import Pipeline


def plan_of(text):
    return check(parse("machine m " + text))


def told_widths(plan):
    """The widths of the rows that are told."""
    found = [1] + [row[1] for row in plan[3]]
    for word, number, *_ in plan[4]:
        found.append(1)
        found.extend([plan[1][number][1]] if word == "set" else plan[2][number][1:3])
    return found


class Building(unittest.TestCase):
    def judge(self, plan, roms=(), cycles=30):
        """The records of what is done, cycle by cycle, in which pipeline and circuit are alike."""
        circuit = build(plan)
        self.assertIs(is_circuit(circuit), True)
        self.assertEqual(circuit[1], tuple((bits, width) for _, bits, width, _ in plan[2]))
        widths = widths_of(circuit)
        self.assertEqual([widths[row] for row in circuit[5]], told_widths(plan))
        state = start(plan, roms)
        told = run_circuit(circuit, state[1], cycles)
        folded = run_circuit(fold(circuit), state[1], cycles)
        pipeline = Pipeline(plan, state)
        found = []
        for cycle in range(cycles):
            done = pipeline.cycle()
            self.assertEqual(told[cycle][0], len(done), cycle)
            record = done[0] if done else None
            self.assertEqual(record_of(plan, told[cycle]), record, cycle)
            self.assertEqual(record_of(plan, folded[cycle]), record, cycle)
            found.append(record)
        return found, pipeline

    def test_one_stage(self):
        found, _ = self.judge(plan_of("reg a 8; at 0: let x = a; a := x + 3w8;"), cycles=5)
        self.assertEqual(found[2], ((6,), ((0, None, 9),)))

    def test_nothing_at_all(self):
        self.assertEqual(self.judge(plan_of("at 0:"), cycles=3)[0], [((), ())] * 3)
        self.assertEqual(self.judge(plan_of("at 0: at 1: at 2:"), cycles=4)[0], [None, None, ((), ()), ((), ())])

    def test_tests(self):
        text = "reg a 8; reg b 8; at 0: let x = a; at 1: a := x + 1w8; b := x when part(x, 0, 0);"
        found, _ = self.judge(plan_of(text))
        writes = [record[1] for record in found if record]
        self.assertEqual(writes[:3], [((0, None, 1),), ((0, None, 2), (1, None, 1)), ((0, None, 3),)])

    def test_written_late_read_early(self):
        for stages in range(2, 9):
            rows = "".join(f"at {at}: " for at in range(1, stages))
            # Known early: passed on to those who read it.
            _, pipeline = self.judge(plan_of("reg a 8; at 0: let x = a; " + rows + "a := x + 1w8;"))
            self.assertEqual(sum(pipeline.waited), 0)
            _, pipeline = self.judge(plan_of("reg a 32; reg b 1; at 0: let x = a; let y = x * 5w32 + 1w32;" + rows
                                             + "a := y; b := ~b when y < 100000w32;"))
            self.assertEqual(sum(pipeline.waited), 0)
            # Known only where it is written: one waits.
            _, pipeline = self.judge(plan_of("reg a 8; reg b 8; at 0: let x = a; " + rows
                                             + "a := x + b; b := b + 1w8 when a < 9w8;"))
            self.assertEqual(pipeline.waited[0] > 0, stages > 2)

    def test_files_and_roms(self):
        for stages in range(2, 8):
            rows = "".join(f"at {at}: " for at in range(1, stages))
            text = ("reg p 3; rom c 3 8; file f 2 8; file g 1 32; "
                    "at 0: let w = c[p]; let x = f[part(w, 0, 1)]; let z = g[part(x, 0, 0)];" + rows
                    + "p := p + 1w3; f[part(w, 2, 3)] := x + w when part(w, 4, 4); "
                    "g[part(p, 0, 0)] := join(w, wide(z, 24));")
            for seed in range(3):
                plan = plan_of(text)
                _, pipeline = self.judge(plan, made_roms(seed, plan), 60)
                self.assertEqual(pipeline.waited[0] > 0, stages > 2)

    def test_addresses_that_are_known_late(self):
        """A word is read while it is not known yet where an instruction ahead writes to."""
        text = ("reg a 2; reg b 2; file f 2 8; at 0: let x = f[a]; at 1: let y = part(x, 0, 1); at 2: a := a + 1w2; "
                "b := b + y; f[b ^ y] := x + 1w8 when ~(y == 3w2);")
        found, pipeline = self.judge(plan_of(text), cycles=60)
        self.assertGreater(pipeline.waited[0], 0)

    def test_waiting_behind_the_stage_in_which_it_is_known(self):
        """What an instruction that waits worked out ahead of its slot is known; what it would work out there is not."""
        text = ("reg a 8; reg b 8; reg c 8; at 0: let x = a; at 1: let z = c; at 2: let y = x + 1w8; at 3: let w = b; "
                "at 4: at 5: at 6: a := y; c := z + 1w8; b := b * 3w8 + w + 1w8 when part(z, 0, 0);")
        _, pipeline = self.judge(plan_of(text), cycles=60)
        self.assertGreater(pipeline.waited[3], 0)
        text = ("reg a 8; reg b 8; at 0: let x = a; at 1: at 2: let y = x + b; at 3: at 4: a := y when part(y, 0, 0); "
                "at 5: b := b * 3w8 + 1w8;")
        _, pipeline = self.judge(plan_of(text), cycles=60)
        self.assertGreater(min(pipeline.waited[0], pipeline.waited[2]), 0)

    def test_guesses(self):
        for stages in range(2, 9):
            for guessed in range(stages - 1):
                rows = ["let x = a;"] + [""] * (stages - 1)
                rows[guessed] += " guess a = x + 1w4;"
                rows[-1] += " a := x == 5w4 ? 11w4 : x + 1w4; b := b + wide(x, 8);"
                text = "reg a 4; reg b 8; " + " ".join(f"at {at}: {row}" for at, row in enumerate(rows))
                found, pipeline = self.judge(plan_of(text), cycles=90)
                self.assertGreater(pipeline.missed, 0)

    def test_two_guesses(self):
        text = ("reg a 4; reg b 8; reg n 8; at 0: let x = a; let y = b; guess a = x + 1w4; "
                "at 1: guess b = y + wide(x, 8); "
                "at 2: a := y < 9w8 ? x + 2w4 : x + 1w4; at 3: let z = n; "
                "at 4: b := x == 3w4 ? 1w8 : y + wide(x, 8); at 5: n := z + 1w8 when part(y, 0, 0);")
        found, pipeline = self.judge(plan_of(text), cycles=120)
        self.assertGreater(pipeline.missed, 3)

    def test_made_ones(self):
        met = {"waits": 0, "missed": 0, "stages": set()}
        for seed in range(150):
            plan = check(made_machine(seed))
            _, pipeline = self.judge(plan, made_roms(seed, plan))
            met["waits"] += sum(pipeline.waited)
            met["missed"] += pipeline.missed
            met["stages"].add(plan[0])
        self.assertGreater(met["waits"], 200)
        self.assertGreater(met["missed"], 50)
        self.assertEqual(met["stages"], set(range(1, 9)))

    def test_large_made_ones(self):
        for seed in range(12):
            plan = check(made_machine(seed, stages=3 + seed % 6, rows=9, depth=4, guesses=3))
            self.judge(plan, made_roms(seed, plan), 60)


class Records(unittest.TestCase):
    def test_record_of(self):
        plan = plan_of("reg a 8; reg b 8; file f 2 8; at 0: let x = a; let y = b; a := x when part(y, 0, 0); "
                       "f[part(x, 0, 1)] := y when part(x, 0, 0); b := y;")
        self.assertEqual(record_of(plan, (1, 5, 6, 1, 7, 1, 2, 8, 1, 9)),
                         ((5, 6), ((0, None, 7), (1, 2, 8), (2, None, 9))))
        self.assertEqual(record_of(plan, (1, 5, 6, 0, 7, 0, 2, 8, 1, 0)), ((5, 6), ((2, None, 0),)))
        self.assertEqual(record_of(plan, (1, 0, 0, 0, 7, 1, 0, 0, 0, 9)), ((0, 0), ((1, 0, 0),)))
        self.assertIsNone(record_of(plan, (0, 5, 6, 1, 7, 1, 2, 8, 1, 9)))
        self.assertEqual(record_of(check(parse("machine m at 0:")), (1,)), ((), ()))


if __name__ == "__main__":
    unittest.main()
