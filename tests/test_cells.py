"""Promise 11.2."""

import random
import unittest

from machines import made_circuit, made_contents, made_net
from stagecut.blast import blast
from stagecut.cells import pack_cells, run_cells
from stagecut.gates import run_net
from stagecut.tables import map_tables
from test_tables import made_tabled, slow_run


def slow_cells(packed, cycles):
    """Cells run word by word: tables are worked out until nothing changes."""
    cells, outs = packed
    worths = [first or 0 for _, _, first in cells]
    told = []
    for _ in range(cycles):
        for _ in cells:
            tables = [bits[sum(worths[read] * 2 ** at for at, read in enumerate(reads))] for reads, bits, _ in cells]
            worths = [worth if first is not None else table
                      for worth, table, (_, _, first) in zip(worths, tables, cells)]
        tables = [bits[sum(worths[read] * 2 ** at for at, read in enumerate(reads))] for reads, bits, _ in cells]
        told.append(tuple(worths[at] for at in outs))
        worths = [worth if first is None else table for worth, table, (_, _, first) in zip(worths, tables, cells)]
    return tuple(told)


def in_another_order(packed, seed):
    """The same cells with other numbers."""
    cells, outs = packed
    numbers = list(range(len(cells)))
    random.Random(seed).shuffle(numbers)
    found = [None] * len(cells)
    for at, (reads, bits, first) in zip(numbers, cells):
        found[at] = (tuple(numbers[read] for read in reads), bits, first)
    return tuple(found), tuple(numbers[at] for at in outs)


class Packing(unittest.TestCase):
    def judge(self, tabled, cycles=6):
        found = pack_cells(tabled)
        self.assertIs(type(found), tuple)
        cells, outs = found
        self.assertIs(type(cells), tuple)
        self.assertIs(type(outs), tuple)
        firsts = tabled[0]
        self.assertEqual(tuple(first for _, _, first in cells), firsts + (None,) * (len(cells) - len(firsts)))
        for reads, bits, _ in cells:
            self.assertIs(type(reads), tuple)
            self.assertIs(type(bits), tuple)
            self.assertEqual(len(bits), 2 ** len(reads))
            self.assertTrue(all(type(read) is int and 0 <= read < len(cells) for read in reads))
            self.assertTrue(all(type(bit) is int and bit in (0, 1) for bit in bits))
        self.judge_no_rings(cells)
        told = slow_run(tabled, cycles)
        self.assertEqual(slow_cells(found, cycles), told)
        self.assertEqual(run_cells(found, cycles), told)
        # The k-th cell is that of the k-th latch: what they have is what the latches have.
        state = (firsts, tabled[1], tabled[2], tuple(2 + 2 * at for at in range(len(firsts))))
        self.assertEqual(slow_cells((cells, tuple(range(len(firsts)))), cycles), slow_run(state, cycles))
        return found

    def judge_no_rings(self, cells):
        settled = {at: True for at, cell in enumerate(cells) if cell[2] is not None}
        for _ in cells:
            for at, (reads, _, _) in enumerate(cells):
                if all(read in settled for read in reads):
                    settled[at] = True
        self.assertEqual(len(settled), len(cells))

    def test_nothing(self):
        self.assertEqual(self.judge(((),) * 4), ((), ()))

    def test_latches(self):
        # The next one is another latch, itself, a constant, and the other value of each.
        nexts = (6, 4, 0, 7, 11, 1, 14)
        tabled = ((0, 1, 1, 0, 1, 0, 0), (), nexts, tuple(2 + 2 * at for at in range(7)))
        cells, outs = self.judge(tabled)
        self.assertEqual((len(cells), outs), (7, (0, 1, 2, 3, 4, 5, 6)))

    def test_told_twice(self):
        tabled = ((1,), (((1,), (1, 0)),), (4,), (4, 4, 2, 2, 5, 3, 5, 0, 1, 0, 3))
        _, outs = self.judge(tabled)
        for one, other in ((0, 1), (2, 3), (4, 6), (5, 10), (7, 9)):
            self.assertEqual(outs[one], outs[other])

    def test_constants(self):
        self.judge(((), (), (), (0, 1)))
        self.judge(((), (((), (1,)), ((), (0,))), (), (2, 3, 4, 5)))
        self.judge(((0,), (((0, 1), (0, 1, 1, 0)), ((0,), (1, 0)), ((0, 2, 3), (0,) * 6 + (1, 1))), (4,), (6, 8, 9)))

    def test_a_table_of_many_leaves(self):
        bits = tuple(at % 3 % 2 for at in range(64))
        self.judge(((0, 1, 0, 1, 1, 0), (((1, 2, 3, 4, 5, 6), bits),), (14, 2, 4, 6, 8, 15), (14, 15)))

    def test_made_ones(self):
        for seed in range(300):
            self.judge(made_tabled(seed))

    def test_mapped_nets(self):
        for seed in range(40):
            for net in (made_net(seed), blast(made_circuit(seed), made_contents(seed, made_circuit(seed)))):
                tabled = map_tables(net, 2 + seed % 5)
                self.assertEqual(run_cells(pack_cells(tabled), 5), run_net(net, 5))
        for seed in range(60):
            self.judge(map_tables(made_net(seed), 2 + seed % 5))


class Running(unittest.TestCase):
    def test_any_order(self):
        for seed in range(100):
            tabled = made_tabled(seed)
            packed = in_another_order(pack_cells(tabled), seed)
            self.assertEqual(run_cells(packed, 6), slow_run(tabled, 6))

    def test_a_cell_ahead_of_those_that_it_reads(self):
        cells = (((1, 1), (0, 1, 1, 1), None), ((2,), (1, 0), None), ((3, 2), (0, 1, 1, 0), 1), ((), (1,), None))
        self.assertEqual(run_cells((cells, (0, 1, 2, 0)), 3), ((0, 0, 1, 0), (1, 1, 0, 1), (0, 0, 1, 0)))
        self.assertEqual(run_cells((cells, ()), 2), ((), ()))
        self.assertEqual(run_cells((cells, (2,)), 0), ())

    def test_latches_that_read_latches(self):
        cells = (((1,), (0, 1), 0), ((2,), (0, 1), 0), ((0,), (0, 1), 1))
        self.assertEqual(run_cells((cells, (0, 1, 2)), 4), ((0, 0, 1), (0, 1, 0), (1, 0, 0), (0, 0, 1)))

    def test_long_chains(self):
        many = 2000
        cells = tuple(((at + 1,), (1, 0), None) for at in range(many)) + (((many,), (1, 0), 0),)
        self.assertEqual(run_cells((cells, (0, many)), 3), ((0, 0), (1, 1), (0, 0)))


if __name__ == "__main__":
    unittest.main()
