"""Promises 6.2 and 6.3."""

import unittest

from machines import made_circuit, made_contents
from slow import operation
from stagecut.circuit import is_circuit, widths_of
from stagecut.circuit_run import run_circuit


def told_by(rows, *outs):
    """What rows tell in the only cycle."""
    circuit = ((), (), rows, (), (), outs)
    assert is_circuit(circuit)
    return run_circuit(circuit, (), 1)[0]


def slow_run(circuit, contents, cycles):
    """What a circuit tells, row by row as the document has it."""
    registers, _, rows, nexts, stores, outs = circuit
    widths = widths_of(circuit)
    regs = [first for _, first in registers]
    memories = [dict(enumerate(words)) for words in contents]
    told = []
    for _ in range(cycles):
        worths = {}
        for at, row in enumerate(rows):
            worths[at] = row_value(row, worths, widths, regs, memories)
        told.append(tuple(worths[at] for at in outs))
        for memory, address, worth, test in stores:
            if worths[test] == 1:
                memories[memory][worths[address]] = worths[worth]
        regs = [worths[at] for at in nexts]
    return tuple(told)


def row_value(row, worths, widths, regs, memories):
    kind = row[0]
    if kind == "lit":
        return row[1]
    if kind == "reg":
        return regs[row[1]]
    if kind == "look":
        return memories[row[1]][worths[row[2]]]
    if kind == "op":
        return operation(row[1], worths[row[2]], worths[row[3]], widths[row[2]])
    if kind == "pick":
        return worths[row[2]] if worths[row[1]] == 1 else worths[row[3]]
    one = worths[row[1]]
    if kind == "not":
        return 2 ** widths[row[1]] - 1 - one
    if kind == "wide":
        return one % 2 ** row[2]
    if kind == "part":
        return one // 2 ** row[2] % 2 ** (row[3] - row[2] + 1)
    return one * 2 ** widths[row[2]] + worths[row[2]]


class Rows(unittest.TestCase):
    def test_operations_at_the_bounds(self):
        for width in (1, 2, 8, 31, 32):
            top = 2 ** width - 1
            worths = sorted({0, 1, top, top - 1, top // 2, top // 2 + 1})
            for sign in ("+", "-", "*", "&", "|", "^", "==", "<", "<<", ">>"):
                for one in worths:
                    for other in worths:
                        rows = (("lit", one, width), ("lit", other, width), ("op", sign, 0, 1))
                        self.assertEqual(told_by(rows, 2), (operation(sign, one, other, width),), rows)

    def test_others_at_the_bounds(self):
        top = 4294967295
        one = ("lit", 1, 1)
        for rows, told in (
            ((one, ("not", 0)), 0), ((("lit", top, 32), ("not", 0)), 0), ((("lit", 0, 32), ("not", 0)), top),
            ((one, ("lit", 3, 8), ("lit", 4, 8), ("pick", 0, 1, 2)), 3),
            ((("lit", 0, 1), ("lit", 3, 8), ("lit", 4, 8), ("pick", 0, 1, 2)), 4),
            ((("lit", top, 32), ("wide", 0, 1)), 1), ((one, ("wide", 0, 32)), 1),
            ((("lit", 200, 8), ("wide", 0, 6)), 8),
            ((("lit", top - 1, 32), ("part", 0, 0, 31)), top - 1), ((("lit", top, 32), ("part", 0, 31, 31)), 1),
            ((("lit", 180, 8), ("part", 0, 2, 5)), 13), ((one, ("part", 0, 0, 0)), 1),
            ((one, ("lit", 0, 31), ("join", 0, 1)), 2147483648), ((("lit", 5, 3), ("lit", 2, 2), ("join", 0, 1)), 22),
            ((("lit", 1, 8), ("lit", 8, 32), ("op", "<<", 0, 1)), 0),
            ((("lit", 255, 8), ("lit", top, 32), ("op", ">>", 0, 1)), 0),
            ((("lit", top, 32), ("lit", 32, 8), ("op", "<<", 0, 1)), 0),
            ((("lit", top, 32), ("lit", 31, 8), ("op", "<<", 0, 1)), 2147483648),
        ):
            self.assertEqual(told_by(rows, len(rows) - 1), (told,), rows)


class Cycles(unittest.TestCase):
    def test_no_cycles_and_nothing_told(self):
        self.assertEqual(run_circuit(((),) * 6, (), 0), ())
        self.assertEqual(run_circuit(((),) * 6, (), 2), ((), ()))

    def test_registers(self):
        rows = (("reg", 0), ("lit", 1, 8), ("op", "+", 0, 1), ("reg", 1))
        circuit = (((8, 254), (8, 7)), (), rows, (2, 0), (), (0, 3, 0))
        self.assertEqual(run_circuit(circuit, (), 4), ((254, 7, 254), (255, 254, 255), (0, 255, 0), (1, 0, 1)))

    def test_looks_come_ahead_of_stores(self):
        rows = (("lit", 0, 1), ("look", 0, 0), ("lit", 1, 8), ("op", "+", 1, 2), ("lit", 1, 1))
        circuit = ((), ((1, 8),), rows, (), ((0, 0, 3, 4),), (1, 3))
        self.assertEqual(run_circuit(circuit, ((5, 9),), 3), ((5, 6), (6, 7), (7, 8)))

    def test_stores_in_order(self):
        """Of several stores to one word, the last one whose test is 1 tells."""
        rows = (("lit", 1, 1), ("lit", 0, 1), ("lit", 10, 8), ("lit", 20, 8), ("lit", 30, 8), ("look", 0, 0),
                ("look", 0, 1), ("look", 1, 0))
        for stores, told in (
            (((0, 0, 2, 0), (0, 0, 3, 0), (0, 0, 4, 0)), (30, 2, 4)),
            (((0, 0, 2, 0), (0, 0, 3, 0), (0, 0, 4, 1)), (20, 2, 4)),
            (((0, 0, 4, 0), (0, 0, 3, 1), (0, 0, 2, 1)), (30, 2, 4)),
            (((0, 0, 4, 0), (0, 1, 3, 0), (0, 0, 2, 1)), (30, 20, 4)),
            (((0, 0, 4, 1), (1, 0, 3, 0), (0, 1, 2, 0)), (1, 10, 20)),
            ((), (1, 2, 4)),
        ):
            circuit = ((), ((1, 8), (1, 8)), rows, (), stores, (5, 6, 7))
            self.assertTrue(is_circuit(circuit))
            self.assertEqual(run_circuit(circuit, ((2, 1), (3, 4)), 2)[1], told, stores)

    def test_what_is_given_stays(self):
        rows = (("lit", 1, 1), ("lit", 10, 8))
        circuit = ((), ((1, 8),), rows, (), ((0, 0, 1, 0),), ())
        contents = ((1, 2),)
        run_circuit(circuit, contents, 2)
        self.assertEqual(contents, ((1, 2),))

    def test_made_ones(self):
        for seed in range(120):
            circuit = made_circuit(seed)
            contents = made_contents(seed, circuit)
            told = run_circuit(circuit, contents, 8)
            self.assertEqual(told, slow_run(circuit, contents, 8), seed)
            for row in told:
                self.assertTrue(all(type(worth) is int for worth in row))


if __name__ == "__main__":
    unittest.main()
