"""Promise 6.4."""

import unittest

from machines import made_circuit, made_contents
from stagecut.circuit import is_circuit
from stagecut.circuit_run import run_circuit
from stagecut.fold import fold

SIDES = {"lit": (), "reg": (), "look": (2,), "not": (1,), "op": (2, 3), "pick": (1, 2, 3), "wide": (1,), "part": (1,),
         "join": (1, 2)}


def hung_on(circuit):
    """The rows and registers on which something told hangs."""
    registers, _, rows, nexts, stores, outs = circuit
    seen = set(outs)
    more = True
    while more:
        ahead = set()
        for at in seen:
            row = rows[at]
            ahead.update(row[place] for place in SIDES[row[0]])
            if row[0] == "reg":
                ahead.add(nexts[row[1]])
            if row[0] == "look":
                for store in stores:
                    if store[0] == row[1]:
                        ahead.update(store[1:])
        more = ahead - seen
        seen |= ahead
    return seen, {rows[at][1] for at in seen if rows[at][0] == "reg"}


class Folding(unittest.TestCase):
    def judge(self, circuit, seed=0):
        """The folded circuit, of which all holds that is promised."""
        self.assertTrue(is_circuit(circuit))
        found = fold(circuit)
        self.assertTrue(is_circuit(found))
        registers, memories, rows, nexts, stores, outs = found
        self.assertEqual(memories, circuit[1])
        self.assertLessEqual(len(registers), len(circuit[0]))
        self.assertLessEqual(len(rows), len(circuit[2]))
        self.assertEqual(len(outs), len(circuit[5]))
        for at in range(3):
            contents = made_contents(seed * 3 + at, circuit)
            self.assertEqual(run_circuit(found, contents, 10), run_circuit(circuit, contents, 10))
        self.assertEqual(len(set(rows)), len(rows))
        for row in rows:
            sides = [rows[row[place]][0] for place in SIDES[row[0]]]
            self.assertFalse(sides and row[0] != "look" and set(sides) == {"lit"}, row)
        seen, kept = hung_on(found)
        self.assertEqual(seen, set(range(len(rows))))
        self.assertEqual(kept, set(range(len(registers))))
        for at, (width, first) in enumerate(registers):
            self.assertNotIn(rows[nexts[at]], (("reg", at), ("lit", first, width)))
        return found

    def test_made_ones(self):
        for seed in range(300):
            circuit = made_circuit(seed, rows=10 + seed % 30)
            found = self.judge(circuit, seed)
            self.assertEqual(fold(found), found)

    def test_nothing(self):
        self.assertEqual(self.judge(((),) * 6), ((),) * 6)
        rows = (("reg", 0), ("lit", 1, 8), ("op", "+", 0, 1))
        circuit = (((8, 0),), ((1, 8),), rows, (2,), (), ())
        self.assertEqual(self.judge(circuit), ((), ((1, 8),), (), (), (), ()))

    def test_literals_alone(self):
        rows = (("lit", 3, 8), ("lit", 4, 8), ("op", "+", 0, 1), ("not", 2), ("op", "==", 3, 3), ("pick", 4, 2, 0),
                ("wide", 5, 4), ("part", 5, 1, 2), ("join", 6, 7))
        self.assertEqual(self.judge(((), (), rows, (), (), (8,))), ((), (), (("lit", 31, 6),), (), (), (0,)))
        for at in range(len(rows)):
            self.judge(((), (), rows, (), (), (at, at)))

    def test_looks_at_literals_stay(self):
        rows = (("lit", 1, 1), ("not", 0), ("look", 0, 1), ("look", 0, 0))
        found = self.judge(((), ((1, 8),), rows, (), (), (2, 3)))
        self.assertEqual(sorted(row[0] for row in found[2]), ["lit", "lit", "look", "look"])

    def test_rows_that_stand_twice(self):
        rows = (("reg", 0), ("reg", 0), ("lit", 1, 8), ("op", "+", 0, 2), ("lit", 1, 8), ("op", "+", 1, 4),
                ("op", "*", 3, 5))
        found = self.judge((((8, 0),), (), rows, (6,), (), (6, 5, 3)))
        self.assertEqual(len(found[2]), 4)
        self.assertEqual(found[5][1], found[5][2])

    def test_rows_that_stand_twice_only_behind_folding(self):
        rows = (("reg", 0), ("lit", 3, 8), ("lit", 1, 8), ("lit", 2, 8), ("op", "+", 2, 3), ("op", "*", 0, 1),
                ("op", "*", 0, 4), ("op", "^", 5, 0), ("op", "^", 6, 0))
        circuit = (((8, 5),), (), rows, (8,), (), (7, 8))
        found = self.judge(circuit)
        self.assertEqual((len(found[2]), found[5][0]), (4, found[5][1]))

    def test_registers_with_their_own_row(self):
        rows = (("reg", 0), ("reg", 0), ("not", 1))
        self.assertEqual(self.judge((((8, 5),), (), rows, (1,), (), (2,))), ((), (), (("lit", 250, 8),), (), (), (0,)))

    def test_registers_with_the_literal_of_their_first_value(self):
        rows = (("reg", 0), ("lit", 5, 8), ("lit", 6, 8))
        self.assertEqual(self.judge((((8, 5),), (), rows, (1,), (), (0,))), ((), (), (("lit", 5, 8),), (), (), (0,)))
        found = self.judge((((8, 5),), (), rows, (2,), (), (0,)))
        self.assertEqual(len(found[0]), 1)

    def test_registers_only_behind_folding(self):
        # The next row is a literal only when worked out.
        rows = (("reg", 0), ("lit", 2, 8), ("lit", 3, 8), ("op", "+", 1, 2), ("not", 0))
        self.assertEqual(self.judge((((8, 5),), (), rows, (3,), (), (4,)))[:2], ((), ()))
        # The next row is its own one, picked.
        rows = (("lit", 1, 1), ("reg", 0), ("not", 1), ("pick", 0, 1, 2))
        self.assertEqual(self.judge((((8, 5),), (), rows, (3,), (), (2,))), ((), (), (("lit", 250, 8),), (), (), (0,)))
        # One hangs on another one, which is one that stays.
        rows = (("reg", 0), ("reg", 1), ("op", "+", 0, 1), ("lit", 0, 8), ("op", "*", 0, 3))
        circuit = (((8, 0), (8, 7)), (), rows, (4, 1), (), (2,))
        self.assertEqual(self.judge(circuit), ((), (), (("lit", 7, 8),), (), (), (0,)))
        # A row of them: each stays only because the one ahead of it does.
        many = 6
        rows = tuple(("reg", at) for at in range(many)) + (("lit", 0, 8),)
        rows += tuple(("op", "+", at, at) for at in range(many))
        nexts = (many,) + tuple(many + at for at in range(1, many))
        circuit = (((8, 0),) * many, (), rows, nexts, (), (many - 1,))
        self.assertEqual(self.judge(circuit), ((), (), (("lit", 0, 8),), (), (), (0,)))

    def test_registers_that_change_stay(self):
        rows = (("reg", 0), ("reg", 1))
        circuit = (((8, 5), (8, 6)), (), rows, (1, 0), (), (0,))
        self.assertEqual(len(self.judge(circuit)[0]), 2)

    def test_what_nothing_told_hangs_on(self):
        # A register that only itself hangs on.
        rows = (("reg", 0), ("lit", 1, 8), ("op", "+", 0, 1), ("reg", 1), ("not", 3))
        found = self.judge((((8, 0), (8, 0)), (), rows, (2, 4), (), (3,)))
        self.assertEqual((found[0], len(found[2])), (((8, 0),), 2))
        # One that something told hangs on by way of another one.
        found = self.judge((((8, 0), (8, 0)), (), rows, (2, 0), (), (3,)))
        self.assertEqual(len(found[0]), 2)

    def test_stores(self):
        rows = (("lit", 0, 1), ("reg", 0), ("not", 1), ("lit", 1, 1), ("look", 0, 0), ("look", 1, 0), ("reg", 1),
                ("not", 6))
        registers = ((8, 0), (8, 3))
        memories = ((1, 8), (1, 8))
        stores = ((0, 0, 1, 3), (1, 3, 6, 3))
        # Only what is stored to memories that are looked at is needed, with the registers behind it.
        found = self.judge((registers, memories, rows, (2, 7), stores, (4,)))
        self.assertEqual((found[0], [store[0] for store in found[4]]), (((8, 0),), [0]))
        found = self.judge((registers, memories, rows, (2, 7), stores, (5,)))
        self.assertEqual((found[0], [store[0] for store in found[4]]), (((8, 3),), [1]))
        found = self.judge((registers, memories, rows, (2, 7), stores, (5, 4)))
        self.assertEqual((len(found[0]), len(found[4])), (2, 2))
        found = self.judge((registers, memories, rows, (2, 7), stores, (3,)))
        self.assertEqual((found[0], found[2], found[4]), ((), (("lit", 1, 1),), ()))

    def test_a_memory_looked_at_to_store_into_another_one(self):
        rows = (("lit", 0, 1), ("lit", 1, 1), ("look", 0, 0), ("look", 1, 0), ("reg", 0), ("not", 4))
        memories = ((1, 8), (1, 8))
        stores = ((0, 0, 4, 1), (1, 0, 2, 1))
        found = self.judge((((8, 9),), memories, rows, (5,), stores, (3,)))
        self.assertEqual((len(found[0]), len(found[4])), (1, 2))
        found = self.judge((((8, 9),), memories, rows, (5,), stores, (2,)))
        self.assertEqual((len(found[0]), len(found[4])), (1, 1))

    def test_stores_in_order(self):
        rows = (("lit", 0, 1), ("lit", 1, 1), ("lit", 10, 8), ("lit", 20, 8), ("look", 0, 0), ("look", 0, 1))
        stores = ((0, 0, 2, 1), (0, 0, 3, 1), (0, 1, 3, 1), (0, 1, 2, 1), (0, 1, 3, 0))
        self.judge(((), ((1, 8),), rows, (), stores, (4, 5)))


if __name__ == "__main__":
    unittest.main()
