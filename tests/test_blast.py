"""Promise 8.2."""

import random
import unittest

from machines import made_circuit, made_contents, made_machine, made_roms
from slow import operation
from stagecut.blast import blast, words_told
from stagecut.build import build
from stagecut.check import check
from stagecut.circuit import is_circuit
from stagecut.circuit_run import run_circuit
from stagecut.gates import is_net, run_net
from stagecut.onestep import start

SIGNS = ("+", "-", "*", "&", "|", "^", "==", "<", "<<", ">>")


class Blasting(unittest.TestCase):
    def judge(self, circuit, contents, cycles):
        self.assertTrue(is_circuit(circuit))
        net = blast(circuit, contents)
        self.assertIs(is_net(net), True)
        told = run_net(net, cycles)
        words = tuple(words_told(circuit, bits) for bits in told)
        self.assertEqual(words, run_circuit(circuit, contents, cycles))
        many = sum(width for width, _ in circuit[0]) + sum(width << bits for bits, width in circuit[1])
        self.assertEqual(len(net[0]), many)
        return net

    def worked(self, rows, registers):
        """What the last row tells of registers that have these values, by the net."""
        circuit = (registers, (), rows, tuple(range(len(registers))), (), (len(rows) - 1,))
        net = self.judge(circuit, (), 1)
        return words_told(circuit, run_net(net, 1)[0])[0]

    def worths(self, width):
        top = 2 ** width - 1
        chance = random.Random(width)
        return sorted({0, 1, top, top - 1 if width > 1 else 0, top // 2, top // 2 + 1, chance.getrandbits(width)})

    def test_operations(self):
        for width in (1, 2, 31, 32):
            for sign in SIGNS:
                rows = (("reg", 0), ("reg", 1), ("op", sign, 0, 1))
                for one in self.worths(width):
                    for other in self.worths(width):
                        found = self.worked(rows, ((width, one), (width, other)))
                        self.assertEqual(found, operation(sign, one, other, width), (sign, width, one, other))

    def test_operations_with_literals(self):
        for width in (1, 2, 31, 32):
            for sign in SIGNS:
                for one in self.worths(width):
                    other = 2 ** width - 2 if width > 1 else 1
                    rows = (("reg", 0), ("lit", other, width), ("op", sign, 0, 1), ("op", sign, 1, 0),
                            ("lit", 1, 1), ("pick", 4, 2, 3))
                    registers = ((width, one),)
                    self.assertEqual(self.worked(rows[:3], registers), operation(sign, one, other, width))
                    self.assertEqual(self.worked(rows[:4], registers), operation(sign, other, one, width))
                    self.assertEqual(self.worked(rows[:3] + (("op", sign, 0, 0),), registers),
                                     operation(sign, one, one, width))

    def test_all_small_words(self):
        for width in (2, 3):
            for sign in SIGNS:
                rows = (("reg", 0), ("reg", 1), ("op", sign, 0, 1))
                for one in range(2 ** width):
                    for other in range(2 ** width):
                        found = self.worked(rows, ((width, one), (width, other)))
                        self.assertEqual(found, operation(sign, one, other, width))

    def test_shifts_by_more_than_the_width(self):
        for sign in ("<<", ">>"):
            for width in (1, 2, 3, 5, 31, 32):
                top = 2 ** width - 1
                for own in (1, 2, 3, 6, 32):
                    for many in sorted({0, 1, width - 1, width, width + 1, 2 * width, 2 ** own - 1, 2 ** own // 2}):
                        if many < 2 ** own:
                            rows = (("reg", 0), ("reg", 1), ("op", sign, 0, 1))
                            found = self.worked(rows, ((width, top), (own, many)))
                            self.assertEqual(found, operation(sign, top, many, width), (sign, width, own, many))

    def test_others(self):
        for width in (1, 2, 31, 32):
            for worth in self.worths(width):
                registers = ((width, worth), (1, worth % 2), (32, 4042322160))
                own = (("reg", 0), ("reg", 1), ("reg", 2))
                self.assertEqual(self.worked(own + (("not", 0),), registers), 2 ** width - 1 - worth)
                for other in (1, 2, 31, 32):
                    self.assertEqual(self.worked(own + (("wide", 0, other),), registers), worth % 2 ** other)
                for low, high in ((0, 0), (0, width - 1), (width - 1, width - 1), (width // 2, width - 1)):
                    self.assertEqual(self.worked(own + (("part", 0, low, high),), registers),
                                     worth // 2 ** low % 2 ** (high - low + 1))
                self.assertEqual(self.worked(own + (("wide", 2, width), ("pick", 1, 0, 3)), registers),
                                 worth if worth % 2 else 4042322160 % 2 ** width)
                if width < 32:
                    self.assertEqual(self.worked(own + (("join", 0, 1),), registers), worth * 2 + worth % 2)
                    self.assertEqual(self.worked(own + (("join", 1, 0),), registers),
                                     worth % 2 * 2 ** width + worth)
                self.assertEqual(self.worked((("lit", worth, width),), ()), worth)

    def test_looks(self):
        for bits, width in ((1, 1), (1, 32), (2, 2), (3, 5), (6, 8)):
            chance = random.Random(bits)
            words = tuple(chance.getrandbits(width) for _ in range(2 ** bits))
            rows = (("reg", 0), ("look", 0, 0), ("lit", 1, bits), ("op", "+", 0, 2))
            circuit = (((bits, 0),), ((bits, width),), rows, (3,), (), (1,))
            net = self.judge(circuit, (words,), 2 ** bits)
            told = run_net(net, 2 ** bits)
            self.assertEqual(tuple(words_told(circuit, row)[0] for row in told), words)

    def test_stores(self):
        rows = (("lit", 1, 1), ("reg", 0), ("lit", 10, 8), ("lit", 20, 8), ("reg", 1), ("look", 0, 1), ("look", 1, 1),
                ("not", 1), ("op", "+", 4, 2), ("look", 0, 7))
        registers = ((1, 0), (8, 5))
        memories = ((1, 8), (1, 8))
        for stores in (
            (), ((0, 1, 2, 0),), ((0, 1, 2, 0), (0, 1, 3, 0)), ((0, 1, 3, 0), (0, 1, 2, 0)),
            ((0, 1, 2, 0), (0, 7, 3, 0)), ((0, 1, 2, 0), (0, 0, 3, 1)), ((0, 1, 2, 1), (0, 1, 3, 7)),
            ((1, 1, 2, 0), (0, 1, 3, 1)), ((0, 1, 2, 0), (0, 1, 3, 1), (0, 1, 4, 0)), ((0, 0, 4, 0), (1, 7, 5, 0)),
        ):
            circuit = (registers, memories, rows, (7, 8), stores, (5, 6, 9))
            self.judge(circuit, ((1, 2), (3, 4)), 8)

    def test_the_last_of_two_stores_tells(self):
        rows = (("lit", 1, 1), ("lit", 10, 8), ("lit", 20, 8), ("look", 0, 0))
        for stores, worth in ((((0, 0, 1, 0), (0, 0, 2, 0)), 20), (((0, 0, 2, 0), (0, 0, 1, 0)), 10)):
            circuit = ((), ((1, 8),), rows, (), stores, (3,))
            net = self.judge(circuit, ((1, 2),), 3)
            self.assertEqual(words_told(circuit, run_net(net, 2)[1]), (worth,))

    def test_the_order_of_latches(self):
        rows = (("reg", 0), ("reg", 1), ("lit", 0, 1), ("look", 1, 2))
        circuit = (((3, 6), (2, 1)), ((1, 3), (1, 2)), rows, (0, 1), (), (1, 0, 3))
        net = blast(circuit, ((4, 3), (2, 1)))
        self.assertEqual(net[0], (0, 1, 1, 1, 0, 0, 0, 1, 1, 1, 0, 0, 1, 1, 0))
        self.assertEqual(net[3][:5], (8, 10, 2, 4, 6))
        # What a memory has stays, and so do these registers.
        self.assertEqual(net[2], tuple(2 * node for node in range(1, 16)))

    def test_what_is_told(self):
        rows = (("lit", 5, 3), ("lit", 1, 1), ("lit", 2, 4))
        circuit = ((), (), rows, (), (), (2, 0, 1, 0))
        self.assertEqual(run_net(blast(circuit, ()), 1), ((0, 1, 0, 0, 1, 0, 1, 1, 1, 0, 1),))
        self.assertEqual(words_told(circuit, (0, 1, 0, 0, 1, 0, 1, 1, 1, 0, 1)), (2, 5, 1, 5))
        self.assertEqual(words_told(circuit, (1, 1, 1, 1, 0, 0, 1, 0, 0, 1, 0)), (15, 4, 0, 2))
        self.assertEqual(words_told(((),) * 6, ()), ())
        self.assertEqual(blast(((),) * 6, ()), ((),) * 4)
        wide = ((), (), (("lit", 4294967295, 32),), (), (), (0,))
        self.assertEqual(words_told(wide, (1,) * 32), (4294967295,))
        self.assertEqual(words_told(wide, (0,) * 31 + (1,)), (2147483648,))

    def test_made_ones(self):
        for seed in range(150):
            circuit = made_circuit(seed)
            self.judge(circuit, made_contents(seed, circuit), 8)

    def test_pipelines(self):
        for seed in range(30):
            plan = check(made_machine(seed))
            contents = start(plan, made_roms(seed, plan))[1]
            self.judge(build(plan), contents, 15)

    def test_what_is_given_stays(self):
        rows = (("lit", 1, 1), ("lit", 10, 8))
        circuit = ((), ((1, 8),), rows, (), ((0, 0, 1, 0),), ())
        contents = ((1, 2),)
        blast(circuit, contents)
        self.assertEqual(contents, ((1, 2),))


if __name__ == "__main__":
    unittest.main()
