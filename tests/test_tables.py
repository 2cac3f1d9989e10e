"""Promise 11.1."""

import random
import unittest

from machines import made_circuit, made_contents, made_machine, made_net, made_roms
from stagecut.balance import balance
from stagecut.blast import blast
from stagecut.build import build
from stagecut.check import check
from stagecut.gates import run_net
from stagecut.levels import depth
from stagecut.onestep import start
from stagecut.shrink import shrink
from stagecut.tables import map_tables, run_tables, table_levels


def slow_run(tabled, cycles):
    """A net of tables run word by word."""
    firsts, tables, nexts, outs = tabled
    state = list(firsts)
    told = []
    for _ in range(cycles):
        worths = [0] + state
        for leaves, bits in tables:
            worths.append(bits[sum(worths[leaf] * 2 ** at for at, leaf in enumerate(leaves))])
        told.append(tuple((worths[literal // 2] + literal) % 2 for literal in outs))
        state = [(worths[literal // 2] + literal) % 2 for literal in nexts]
    return tuple(told)


def slow_levels(tabled):
    """The depth of a net of tables, from its end."""
    ahead = 1 + len(tabled[0])

    def level(node):
        if node < ahead:
            return 0
        return 1 + max([level(leaf) for leaf in tabled[1][node - ahead][0]], default=0)

    return max([level(literal // 2) for literal in tabled[2] + tabled[3]], default=0)


def made_tabled(seed, most=6):
    """A net of tables, also of tables without leaves and of the constant."""
    chance = random.Random(seed)
    latches = chance.randint(0, 5)
    tables = []
    for at in range(chance.randint(0, 12)):
        ahead = 1 + latches + at
        leaves = tuple(sorted(chance.sample(range(ahead), min(ahead, chance.randint(0, most)))))
        tables.append((leaves, tuple(chance.randrange(2) for _ in range(2 ** len(leaves)))))
    top = 2 * (1 + latches + len(tables))
    firsts = tuple(chance.randrange(2) for _ in range(latches))
    nexts = tuple(chance.randrange(top) for _ in firsts)
    return (firsts, tuple(tables), nexts, tuple(chance.randrange(top) for _ in range(chance.randint(0, 5))))


class Mapping(unittest.TestCase):
    def judge(self, net, size, cycles=6):
        found = map_tables(net, size)
        self.assertIs(type(found), tuple)
        firsts, tables, nexts, outs = found
        self.assertEqual(firsts, net[0])
        self.assertEqual((len(nexts), len(outs)), (len(net[2]), len(net[3])))
        for at, (leaves, bits) in enumerate(tables):
            self.assertIs(type(leaves), tuple)
            self.assertIs(type(bits), tuple)
            self.assertLessEqual(len(leaves), size)
            self.assertEqual(list(leaves), sorted(set(leaves)))
            self.assertTrue(all(type(leaf) is int and 0 <= leaf < 1 + len(firsts) + at for leaf in leaves))
            self.assertEqual(len(bits), 2 ** len(leaves))
            self.assertTrue(all(type(bit) is int and bit in (0, 1) for bit in bits))
        self.judge_needed(found)
        self.assertEqual(slow_run(found, cycles), run_net(net, cycles))
        self.assertLessEqual(slow_levels(found), depth(net))
        return found

    def judge_needed(self, tabled):
        """On each table hangs something told, or a next literal."""
        ahead = 1 + len(tabled[0])
        met = {}
        todo = [literal // 2 for literal in tabled[2] + tabled[3]]
        while todo:
            node = todo.pop()
            if node not in met:
                met[node] = True
                if node >= ahead:
                    todo.extend(tabled[1][node - ahead][0])
        self.assertTrue(all(ahead + at in met for at in range(len(tabled[1]))))

    def test_no_ands(self):
        for size in range(2, 7):
            self.assertEqual(self.judge(((),) * 4, size), ((),) * 4)
            net = ((1, 0, 1), (), (5, 0, 7), (0, 1, 2, 7, 2))
            self.assertEqual(self.judge(net, size), net)

    def test_constant_ands(self):
        # Ands of the constant, of one literal twice, and of a literal and its other value.
        net = ((0, 1), ((0, 2), (1, 4), (2, 2), (4, 5), (6, 8)), (9, 12), (6, 7, 8, 11, 12, 13, 14))
        for size in range(2, 7):
            self.judge(net, size)

    def test_one_table(self):
        net = ((0,) * 6, ((2, 4), (7, 8), (14, 16), (11, 13), (18, 21)), (0,) * 6, (22,))
        found = self.judge(net, 6)
        self.assertEqual(len(found[1]), 1)
        self.assertEqual(found[1][0][0], (1, 2, 3, 4, 5, 6))
        self.assertEqual(table_levels(found), 1)
        self.assertEqual(table_levels(self.judge(net, 2)), 3)
        self.assertLessEqual(len(self.judge(net, 4)[1]), 3)

    def test_bits_of_a_table(self):
        # The first leaf is the low bit: 1 where the first latch is 1 and the second one 0.
        net = ((0, 0), ((2, 5),), (2, 4), (6, 7))
        found = self.judge(net, 2)
        self.assertEqual(found[1], (((1, 2), (0, 1, 0, 0)),))
        self.assertEqual(found[3], (6, 7))

    def test_what_is_not_needed(self):
        net = ((0, 1), ((2, 4), (3, 4), (6, 9)), (2, 5), (8,))
        for size in range(2, 7):
            self.assertEqual(len(self.judge(net, size)[1]), 1)

    def test_made_ones(self):
        for seed in range(120):
            net = made_net(seed, ands=seed % 45)
            for size in range(2, 7):
                self.judge(net, size)

    def test_fewer_leaves_more_tables(self):
        for seed in (3, 4, 5, 9):
            plan = check(made_machine(seed, stages=3))
            net = balance(shrink(blast(build(plan), start(plan, made_roms(seed, plan))[1])))
            tables = [self.judge(net, size, 10) for size in range(2, 7)]
            levels = [table_levels(tabled) for tabled in tables]
            self.assertEqual(levels, sorted(levels, reverse=True))
            self.assertLessEqual(len(tables[0][1]), len(net[1]))

    def test_circuits(self):
        for seed in range(25):
            circuit = made_circuit(seed)
            net = blast(circuit, made_contents(seed, circuit))
            for size in (2, 4, 6):
                self.judge(net, size, 4)

    def test_a_chain(self):
        many = 300
        net = ((1,) * (many + 1), tuple((4 + 2 * at, 2 * (many + 1) + 2 * at if at else 2) for at in range(many)),
               (0,) * (many + 1), (4 * many + 2,))
        for size in (2, 6):
            found = self.judge(net, size, 2)
            self.assertEqual(table_levels(found), -(-many // (size - 1)))


class Tables(unittest.TestCase):
    def test_made_ones(self):
        for seed in range(300):
            tabled = made_tabled(seed)
            self.assertEqual(run_tables(tabled, 6), slow_run(tabled, 6))
            self.assertEqual(table_levels(tabled), slow_levels(tabled))

    def test_no_cycles(self):
        self.assertEqual(run_tables(made_tabled(3), 0), ())
        self.assertEqual(run_tables(((),) * 4, 3), ((), (), ()))

    def test_levels(self):
        self.assertEqual(table_levels(((),) * 4), 0)
        self.assertEqual(table_levels(((0,), (), (2,), (0, 1, 3))), 0)
        # A table without leaves, one behind it, and one on which nothing hangs.
        tables = (((), (1,)), ((1, 2), (0, 1, 1, 0)), ((3,), (1, 0)))
        self.assertEqual(table_levels(((0,), tables, (2,), (4,))), 1)
        self.assertEqual(table_levels(((0,), tables, (2,), (5, 4))), 1)
        self.assertEqual(table_levels(((0,), tables, (7,), (5,))), 2)
        self.assertEqual(table_levels(((0,), tables, (7,), (9,))), 3)
        self.assertEqual(table_levels(((0,), (((0,), (0, 1)),), (2,), (4,))), 1)

    def test_tables_without_leaves(self):
        tabled = ((), (((), (1,)), ((), (0,)), ((1, 2), (0, 1, 0, 0))), (), (2, 3, 4, 5, 6, 7))
        self.assertEqual(run_tables(tabled, 2), ((1, 0, 0, 1, 1, 0),) * 2)


if __name__ == "__main__":
    unittest.main()
