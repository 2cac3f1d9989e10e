"""Promise 10.8: pipelines proved for all words of their roms."""

import random
import unittest

from asked import judge_said
from machines import made_machine
from proofs import is_slow_proof
from stagecut.blast import blast
from stagecut.build_step import watch, watch_contents
from stagecut.check import check
from stagecut.gates import run_net
from stagecut.onestep import start, steps
from stagecut.parser import parse
from stagecut.pipeline import run_pipeline
from stagecut.proofs import is_proof
from stagecut.proved import is_proved, wrong_roms

JUMPS = """
machine jumps
reg pc 2;
reg sum 3;
rom code 2 3;
at 0:
  let here = pc;
  guess pc = here + 1w2;
at 1:
  let word = code[here];
at 2:
  let low = part(word, 0, 1);
at 3:
  pc := part(word, 2, 2) == 1w1 ? low : here + 1w2;
  sum := sum + word;
"""
WAITS = """
machine waits
reg n 2;
file f 1 3;
rom one 1 3;
rom other 2 4;
at 0:
  let now = n;
at 1:
  let word = other[now];
  let old = f[part(word, 0, 0)];
at 2:
  let more = old + one[part(word, 1, 1)];
at 3:
  f[part(word, 3, 3)] := more when part(word, 2, 2) == 1w1;
  n := part(more, 0, 1);
"""
SUMS = """
machine sums
reg a 4;
reg b 4;
at 0:
  let both = a + b;
at 1:
  b := both * a;
  a := a + 1w4;
"""
CHANGES = "machine m reg a 1; file f 1 2; rom c 2 2; at 0: let w = c[join(a, a)]; f[a] := w; a := ~a;"


def watching_net(plan, contents):
    return blast(watch(plan), watch_contents(plan, contents))


class WrongRoms(unittest.TestCase):
    def judge(self, text, cycles, values=3):
        """None and a proof; and the clauses but the last one tell what the watching circuit tells."""
        plan = check(parse(text)) if isinstance(text, str) else text
        found = wrong_roms(plan, cycles)
        self.assertIs(type(found), tuple)
        roms, clauses, proof = found
        self.assertIsNone(roms)
        self.assertTrue(is_proof(clauses, proof))
        self.assertIs(is_proved(plan, cycles), True)
        widths = [width << bits for _, bits, width, is_rom in plan[2] if is_rom]
        self.assertEqual(sorted(clauses[-1]), [sum(widths) + 2 * cycle + 2 for cycle in range(cycles)])
        chance = random.Random(cycles)
        for _ in range(values):
            roms = tuple(tuple(chance.getrandbits(width) for _ in range(1 << bits))
                         for _, bits, width, is_rom in plan[2] if is_rom)
            bits = [(word >> at) & 1 for row, words in zip([row for row in plan[2] if row[3]], roms)
                    for word in words for at in range(row[2])]
            net = watching_net(plan, start(plan, roms)[1])
            self.assertFalse(any(row[1] for row in run_net(net, cycles)))
            judge_said_by(self, clauses[:-1], net, bits, cycles)
        return clauses, proof

    def test_guesses(self):
        for cycles in range(9):
            clauses, proof = self.judge(JUMPS, cycles)
            if cycles < 7:
                self.assertTrue(is_slow_proof(clauses, proof))

    def test_files_and_waiting_and_two_roms(self):
        for cycles in (1, 5, 8, 11):
            clauses, proof = self.judge(WAITS, cycles)
        self.assertTrue(is_slow_proof(clauses, proof))

    def test_no_roms(self):
        for cycles in (0, 1, 7):
            clauses, proof = self.judge(SUMS, cycles, 1)
            self.assertTrue(is_slow_proof(clauses, proof))

    def test_one_stage(self):
        for cycles in (0, 1, 6):
            self.judge(CHANGES, cycles)

    def test_no_cycles(self):
        plan = check(parse(JUMPS))
        _, clauses, proof = wrong_roms(plan, 0)
        self.assertEqual(clauses[-1], ())
        self.assertTrue(is_proof(clauses, proof))

    def test_made_ones(self):
        for seed in range(40):
            plan = check(made_machine(seed, stages=1 + seed % 4))
            self.judge(plan, plan[0] + 2 + seed % 5, 1)

    def test_many_cycles(self):
        """More than can be done without showing first what is alike in both."""
        self.judge(WAITS, 24, 1)
        self.judge(made_check(27), 15, 1)

    def test_wrong_pipelines(self):
        """Plans that check would not give: what should be taken back was written."""
        plan = check(parse(JUMPS))
        for stage, cycles in ((1, 8), (1, 10)):
            writes = (plan[4][0], (*plan[4][1][:2], stage, *plan[4][1][3:]))
            wrong = (*plan[:4], writes, plan[5])
            roms, clauses, proof = wrong_roms(wrong, cycles)
            self.assertEqual([len(words) for words in roms], [4])
            self.assertTrue(all(type(word) is int and 0 <= word < 8 for word in roms[0]))
            state = start(wrong, roms)
            records = tuple(record for _, record in run_pipeline(wrong, state, cycles))
            self.assertNotEqual(records, steps(wrong, state, len(records))[0])
            self.assertIs(is_proved(wrong, cycles), False)
            self.assertIs(is_proved(wrong, 5), True)

    def test_words_with_which_it_is_wrong(self):
        """Only if a word jumps, and the one behind it, which is taken back, has been in time to write."""
        text = """machine m
reg pc 2;
reg sum 3;
rom code 2 3;
rom other 1 4;
at 0:
  let here = pc;
  guess pc = here + 1w2;
at 1:
  let word = code[here];
  let key = other[part(here, 0, 0)];
  let old = sum;
at 2:
at 3:
  pc := word == 5w3 & here == 0w2 & key == 9w4 ? 2w2 : here + 1w2;
  sum := sum + 1w3 when word == 6w3 & here == 1w2 & other[1w1] == 4w4;
"""
        plan = check(parse(text))
        self.assertIs(is_proved(plan, 9), True)
        writes = (plan[4][0], (*plan[4][1][:2], 1, *plan[4][1][3:]))
        wrong = (*plan[:4], writes, plan[5])
        roms, _, _ = wrong_roms(wrong, 12)
        self.assertEqual((roms[0][0], roms[0][1], roms[1]), (5, 6, (9, 4)))


def judge_said_by(test, clauses, net, bits, cycles):
    """As judge_said, with the first values of the variables that are no latches of the net."""
    told = [bit for row in run_net(net, cycles) for bit in row]
    test.assertEqual(len(told), 2 * cycles)
    judge_said(test, clauses, [(told_net(told, len(bits), cycles), list(range(len(bits))))], cycles, [tuple(bits)])


def told_net(told, many, cycles):
    """A net with so many latches that are not named, which tells these bits, two a cycle."""
    # A row of latches that hands on what is told next.
    ones, others = told[::2], told[1::2]
    firsts = [0] * many + ones + others
    nexts = [0] * many
    for begin in (many, many + cycles):
        nexts += [2 + 2 * (begin + at + 1) if at + 1 < cycles else 0 for at in range(cycles)]
    outs = (2 + 2 * many, 2 + 2 * (many + cycles)) if cycles else (0, 0)
    return (tuple(firsts), (), tuple(nexts), outs)


def made_check(seed):
    return check(made_machine(seed, stages=2 + seed % 4))


if __name__ == "__main__":
    unittest.main()
