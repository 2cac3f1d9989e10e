"""Promises 10.6 and 10.7: whether a told bit can be 1."""

import random
import unittest

from asked import all_values, judge_said, with_firsts
from machines import made_net
from proofs import is_slow_proof
from stagecut.blast import blast
from stagecut.build import build
from stagecut.check import check
from stagecut.gates import run_net
from stagecut.never import holds_on, is_never, never
from stagecut.onestep import start
from stagecut.parser import parse
from stagecut.proofs import is_proof

# A latch that turns in each cycle, and one that keeps its value; both are told, and the other value of the second one.
TURNS = ((0, 1), (), (3, 4), (2, 4, 5))


def counter(bits, at):
    """A net that counts from 0 on, and tells whether it is at a number, and its highest bit."""
    ands = []

    def both(one, other):
        ands.append((one, other))
        return 2 * (bits + len(ands))

    carry = 1
    nexts = []
    hit = 1
    for bit in range(bits):
        own = 2 + 2 * bit
        nexts.append(both(both(own, carry) ^ 1, both(own ^ 1, carry ^ 1) ^ 1))
        carry = both(own, carry)
        hit = both(hit, own if (at >> bit) & 1 else own ^ 1)
    return ((0,) * bits, tuple(ands), tuple(nexts), (hit, 2 * bits))


def made_asked(seed):
    """A net that tells something, latches in free in any order, which bit, and how many cycles."""
    chance = random.Random(seed)
    net = made_net(seed, latches=chance.randint(0, 5), ands=chance.randint(0, 25))
    if not net[3]:
        net = (*net[:3], (chance.randrange(2 * (1 + len(net[0]) + len(net[1]))),))
    free = chance.sample(range(len(net[0])), chance.randint(0, len(net[0])))
    return net, free, chance.randrange(len(net[3])), chance.randint(0, 4)


class Never(unittest.TestCase):
    def judge(self, net, which, free, cycles, said=True):
        kept = list(free)
        found = never(net, which, free, cycles)
        self.assertEqual(free, kept)
        self.assertIs(type(found), tuple)
        values, clauses, proof = found
        hits = [values for values in all_values(len(free))
                if any(row[which] for row in run_net(with_firsts(net, free, values), cycles))]
        self.judge_found(values, clauses, proof, hits)
        self.assertEqual(sorted(clauses[-1]), [len(free) + cycle * len(net[3]) + which + 1 for cycle in range(cycles)])
        if said:
            judge_said(self, clauses[:-1], [(net, free)], cycles)
        return values

    def judge_found(self, values, clauses, proof, hits):
        self.assertIs(type(clauses), tuple)
        self.assertIs(type(proof), tuple)
        if values is None:
            self.assertEqual(hits, [])
            self.assertTrue(is_slow_proof(clauses, proof))
        else:
            self.assertIs(type(values), tuple)
            self.assertTrue(all(type(value) is int for value in values))
            self.assertIn(values, hits)

    def test_small(self):
        self.assertIsNone(self.judge(TURNS, 0, [], 1))
        self.assertEqual(self.judge(TURNS, 0, [], 2), ())
        self.assertEqual(self.judge(TURNS, 0, [0], 1), (1,))
        self.assertEqual(self.judge(TURNS, 1, [], 1), ())
        self.assertIsNone(self.judge(TURNS, 2, [], 5))
        self.assertEqual(self.judge(TURNS, 2, [1], 5), (0,))
        self.assertEqual(self.judge(TURNS, 2, [1, 0], 3)[0], 0)
        self.assertEqual(self.judge(TURNS, 2, [0, 1], 3)[1], 0)

    def test_no_cycles(self):
        self.assertIsNone(self.judge(TURNS, 0, [], 0))
        self.assertIsNone(self.judge(TURNS, 1, [0, 1], 0))

    def test_no_ands_and_constants(self):
        net = ((), (), (), (0, 1))
        self.assertIsNone(self.judge(net, 0, [], 3))
        self.assertEqual(self.judge(net, 1, [], 3), ())
        net = ((1,), (), (0,), (2, 3, 0, 2))
        self.assertEqual(self.judge(net, 0, [], 1), ())
        self.assertEqual(self.judge(net, 1, [], 2), ())
        self.assertIsNone(self.judge(net, 1, [], 1))
        self.assertEqual(self.judge(net, 1, [0], 1), (0,))
        self.assertIsNone(self.judge(net, 2, [0], 4))

    def test_made_ones(self):
        met = {True: 0, False: 0}
        for seed in range(250):
            net, free, which, cycles = made_asked(seed)
            met[self.judge(net, which, free, cycles) is None] += 1
        self.assertGreater(min(met.values()), 80)

    def test_a_bit_that_is_1_for_few_values(self):
        """An and over many latches, some of them turned round."""
        many = 40
        ands = [(2, 5)]
        for at in range(2, many):
            ands.append((2 * (many + len(ands)), 2 + 2 * at + at % 2))
        out = 2 * (many + len(ands))
        net = ((0,) * many, tuple(ands), tuple(2 + 2 * at for at in range(many)), (out, 5))
        values, _, _ = never(net, 0, list(range(many)), 2)
        self.assertEqual(values, tuple(1 - at % 2 for at in range(many)))
        fixed = (*net[:3], (out, out ^ 1))
        values, clauses, proof = never(fixed, 0, list(range(many - 1)), 3)
        self.assertEqual(values is None, (many - 1) % 2 == 0)
        values, clauses, proof = never(fixed, 0, list(range(1, many)), 3)
        self.assertIsNone(values)
        self.assertTrue(is_slow_proof(clauses, proof))

    def test_a_counter_over_many_cycles(self):
        net = counter(10, 700)
        values, clauses, proof = never(net, 0, [], 700)
        self.assertIsNone(values)
        self.assertTrue(is_proof(clauses, proof))
        self.assertEqual(clauses[-1], tuple(range(1, 1400, 2)))
        self.assertEqual(never(net, 0, [], 701)[0], ())
        self.assertEqual(never(net, 0, [9], 189)[0], (1,))
        self.assertIsNone(never(net, 0, [9], 188)[0])
        judge_said(self, clauses[:-1], [(net, [])], 700)

    def test_pipelines(self):
        """For all words of a rom, a register is never beyond what it can be; and words with which it is."""
        plan = check(parse("machine m reg a 3; reg b 1; rom c 2 3; at 0: let low = part(a, 0, 1); let w = c[low];"
                           "at 1: a := wide(part(w, 0, 1), 3); b := a == 3w3 & w == 5w3;"))
        net = blast(build(plan), start(plan, ((0, 0, 0, 0),))[1])
        free = list(range(len(net[0]) - 12, len(net[0])))
        # Done; the lets of two and three bits; the tests and values of two rows.
        self.assertEqual(len(net[3]), 12)
        values, clauses, proof = never(net, 9, free, 6)
        self.assertIsNone(values)
        self.assertTrue(is_proof(clauses, proof))
        chance = random.Random(1)
        judge_said(self, clauses[:-1], [(net, free)], 6,
                   [tuple(chance.randrange(2) for _ in free) for _ in range(6)])
        values, _, _ = never(net, 11, free, 9)
        self.assertTrue(any(row[11] for row in run_net(with_firsts(net, free, values), 9)))


class HoldsOn(unittest.TestCase):
    def judge(self, net, which, many):
        values, clauses, proof = holds_on(net, which, many)
        latches = len(net[0])
        free = list(range(latches))
        hits = []
        for state in all_values(latches):
            *ahead, last = [row[which] for row in run_net(with_firsts(net, free, state), many + 1)]
            if last and not any(ahead):
                hits.append(state)
        Never.judge_found(self, values, clauses, proof, hits)
        names = [latches + cycle * len(net[3]) + which + 1 for cycle in range(many + 1)]
        self.assertEqual(clauses[-many - 1:], tuple((-name,) for name in names[:-1]) + ((names[-1],),))
        judge_said(self, clauses[:-many - 1], [(net, free)], many + 1)
        return values

    def test_small(self):
        self.assertEqual(self.judge(TURNS, 0, 0)[0], 1)
        self.assertEqual(self.judge(TURNS, 0, 1)[0], 0)
        self.assertIsNone(self.judge(TURNS, 0, 2))
        self.assertEqual(self.judge(TURNS, 1, 0)[1], 1)
        self.assertIsNone(self.judge(TURNS, 1, 1))
        self.assertIsNone(self.judge(((), (), (), (0,)), 0, 0))
        self.assertEqual(self.judge(((), (), (), (1,)), 0, 0), ())
        self.assertIsNone(self.judge(((), (), (), (1,)), 0, 1))

    def test_made_ones(self):
        met = {True: 0, False: 0}
        for seed in range(200):
            net, _, which, many = made_asked(seed)
            met[self.judge(net, which, many) is None] += 1
        self.assertGreater(min(met.values()), 30)

    def test_a_counter(self):
        for many in (0, 1, 6, 13):
            values = holds_on(counter(6, 40), 0, many)[0]
            self.assertEqual(sum(bit << at for at, bit in enumerate(values)), 40 - many)


class IsNever(unittest.TestCase):
    def test_small(self):
        self.assertIs(is_never(TURNS, 0, 0), False)
        self.assertIs(is_never(TURNS, 0, 1), False)
        self.assertIs(is_never(TURNS, 0, 5), False)
        self.assertIs(is_never(TURNS, 1, 3), False)
        self.assertIs(is_never(TURNS, 2, 1), True)
        # From the state in which that latch is 0 it is 1 at once.
        self.assertIs(is_never(TURNS, 2, 0), False)
        self.assertIs(is_never(((), (), (), (0, 1)), 0, 0), True)
        self.assertIs(is_never(((), (), (), (0, 1)), 1, 0), False)
        self.assertIs(is_never(((), (), (), (0, 1)), 1, 2), False)

    def test_a_late_cycle(self):
        net = counter(6, 40)
        for many in (0, 1, 40, 41, 42, 63):
            self.assertIs(is_never(net, 0, many), False)

    def test_never_1_but_only_behind_many_cycles(self):
        """A counter that stands still at 5; from 6 on, which it does not come to, it goes on to 7."""
        plan = check(parse("machine m reg n 3; at 0: let far = n == 7w3;"
                           "n := n == 5w3 ? n : n == 7w3 ? 0w3 : n + 1w3;"))
        net = blast(build(plan), ())
        self.assertFalse(any(row[1] for row in run_net(net, 50)))
        self.assertEqual([is_never(net, 1, many) for many in range(5)], [False, False, True, True, True])
        self.assertEqual(holds_on(net, 1, 1)[0][:3], (0, 1, 1))

    def test_made_ones(self):
        met = {True: 0, False: 0}
        for seed in range(200):
            net, _, which, many = made_asked(seed)
            states = all_values(len(net[0]))
            found = is_never(net, which, many)
            rows = [[row[which] for row in run_net(with_firsts(net, range(len(net[0])), state), many + 1)]
                    for state in states]
            expected = not any(row[which] for row in run_net(net, many))
            self.assertIs(found, expected and not any(row[-1] and not any(row[:-1]) for row in rows))
            if found:
                self.assertFalse(any(row[which] for row in run_net(net, 70)))
            met[found] += 1
        self.assertGreater(min(met.values()), 40)


if __name__ == "__main__":
    unittest.main()
