"""Promise 10.6: whether two nets tell the same."""

import random
import unittest

from asked import all_values, judge_said, told_bits
from machines import made_circuit, made_contents, made_machine, made_net, made_roms
from proofs import is_slow_proof
from stagecut.balance import balance
from stagecut.blast import blast
from stagecut.build import build
from stagecut.check import check
from stagecut.gates import run_net
from stagecut.onestep import start
from stagecut.parser import parse
from stagecut.proofs import is_proof
from stagecut.shrink import shrink
from stagecut.unroll import agree
from test_compare import laid_out_otherwise


class Agreeing(unittest.TestCase):
    def judge(self, one, free, other, freed, cycles):
        kept = (list(free), list(freed))
        found = agree(one, free, other, freed, cycles)
        self.assertEqual((free, freed), kept)
        self.assertIs(type(found), tuple)
        values, clauses, proof = found
        hits = [values for values in all_values(len(free))
                if told_bits([(one, free)], values, cycles) != told_bits([(other, freed)], values, cycles)]
        if values is None:
            self.assertEqual(hits, [])
            self.assertTrue(is_slow_proof(clauses, proof))
        else:
            self.assertIs(type(values), tuple)
            self.assertTrue(all(type(value) is int for value in values))
            self.assertIn(values, hits)
        judge_said(self, clauses[:-1], [(one, free), (other, freed)], cycles)
        return values

    def test_small(self):
        # A latch that keeps its value, one that turns, and one that is 1 behind the first cycle.
        keeps, turns, ones = [((0,), (), (literal,), (2,)) for literal in (2, 3, 1)]
        for net in (keeps, turns, ones):
            self.assertIsNone(self.judge(net, [0], net, [0], 4))
            self.assertIsNone(self.judge(net, [], net, [], 4))
        self.assertIsNone(self.judge(keeps, [0], turns, [0], 1))
        self.assertIsNotNone(self.judge(keeps, [0], turns, [0], 2))
        self.assertEqual(self.judge(keeps, [0], ones, [0], 2), (0,))
        self.assertIsNone(self.judge(turns, [], ones, [], 2))
        self.assertEqual(self.judge(turns, [], ones, [], 3), ())
        self.assertEqual(self.judge(turns, [0], ones, [0], 2), (1,))
        self.assertIsNone(self.judge(keeps, [0], turns, [0], 0))

    def test_another_order_and_other_latches(self):
        one = ((0, 0), (), (2, 4), (2, 4))
        other = ((1, 0, 1), (), (2, 4, 6), (6, 2))
        self.assertIsNone(self.judge(one, [0, 1], other, [2, 0], 3))
        self.assertIsNone(self.judge(one, [1, 0], other, [0, 2], 3))
        values = self.judge(one, [0, 1], other, [0, 2], 3)
        self.assertNotEqual(values[0], values[1])
        # The first one tells 0 behind the value, the other one 1.
        self.assertIsNotNone(self.judge(one, [0], other, [2], 2))
        self.assertIsNone(self.judge(one, [0], (other[0], (), (2, 4, 6), (6, 4)), [2], 2))

    def test_constants(self):
        nothing = ((), (), (), ())
        self.assertIsNone(self.judge(nothing, [], nothing, [], 3))
        zero, one = [((), (), (), (literal,)) for literal in (0, 1)]
        self.assertIsNone(self.judge(zero, [], zero, [], 2))
        self.assertEqual(self.judge(zero, [], one, [], 2), ())
        self.assertEqual(self.judge(((1,), (), (2,), (2, 3)), [], ((), (), (), (0, 1)), [], 1), ())
        self.assertIsNone(self.judge(((1,), (), (2,), (2, 3)), [], ((), (), (), (1, 0)), [], 3))

    def test_made_ones(self):
        met = {True: 0, False: 0}
        for seed in range(200):
            chance = random.Random(seed)
            net = made_net(seed, latches=chance.randint(0, 5), ands=chance.randint(0, 20))
            free = chance.sample(range(len(net[0])), chance.randint(0, len(net[0])))
            cycles = chance.randint(0, 4)
            for other in (laid_out_otherwise(net, chance), balance(net)):
                self.assertIsNone(self.judge(net, free, other, free, cycles))
            turned = tuple(literal ^ (chance.random() < 0.1) for literal in net[2])
            other = (net[0], net[1], turned, net[3])
            met[self.judge(net, free, other, free, cycles) is None] += 1
            other = made_net(seed + 1000, latches=chance.randint(len(free), 6))
            top = 2 * (1 + len(other[0]) + len(other[1]))
            other = (*other[:3], tuple(chance.randrange(top) for _ in net[3]))
            freed = chance.sample(range(len(other[0])), len(free))
            met[self.judge(net, free, other, freed, cycles) is None] += 1
        self.assertGreater(min(met.values()), 60)

    def test_circuits(self):
        for seed in range(25):
            circuit = made_circuit(seed)
            net = blast(circuit, made_contents(seed, circuit))
            values, clauses, proof = agree(net, [], shrink(net), [], 4)
            self.assertIsNone(values)
            self.assertTrue(is_proof(clauses, proof))
            free = list(range(len(net[0])))
            values, clauses, proof = agree(net, free, balance(net), free, 2)
            self.assertIsNone(values)
            self.assertTrue(is_proof(clauses, proof))

    def test_pipelines(self):
        """A pipeline and another net of it, for all words of its rom."""
        for seed in (3, 5, 9, 11):
            plan = check(made_machine(seed, stages=3))
            net = blast(build(plan), start(plan, made_roms(seed, plan))[1])
            free = list(range(len(net[0]) // 2, len(net[0])))
            other = laid_out_otherwise(net, random.Random(seed))
            values, clauses, proof = agree(net, free, other, free, 3)
            self.assertIsNone(values)
            self.assertTrue(is_proof(clauses, proof))
            chance = random.Random(seed)
            some = [tuple(chance.randrange(2) for _ in free) for _ in range(3)]
            judge_said(self, clauses[:-1], [(net, free), (other, free)], 3, some)

    def test_products(self):
        """One times another, and the other way round; and something else for one pair."""
        nets = []
        for text in ("a * b", "b * a", "b * a + (a == 5w4 & b == 9w4 ? 1w4 : 0w4)"):
            plan = check(parse(f"machine m reg a 4; reg b 4; at 0: let c = {text};"))
            nets.append(blast(build(plan), ()))
        free = list(range(8))
        values, clauses, proof = agree(nets[0], free, nets[1], free, 2)
        self.assertIsNone(values)
        self.assertTrue(is_proof(clauses, proof))
        values, _, _ = agree(nets[0], free, nets[2], free, 1)
        self.assertEqual(values, (1, 0, 1, 0, 1, 0, 0, 1))
        self.assertEqual(run_net(nets[0], 1), run_net(nets[2], 1))


if __name__ == "__main__":
    unittest.main()
