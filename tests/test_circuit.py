"""Promises 6.1 and 6.2."""

import unittest

from machines import made_circuit
from stagecut.circuit import is_circuit, widths_of

REGISTERS = ((8, 0), (1, 1), (32, 4294967295))
MEMORIES = ((2, 8), (6, 32))
ROWS = (
    ("reg", 0), ("reg", 1), ("reg", 2), ("lit", 3, 2), ("look", 0, 3), ("not", 0), ("op", "+", 0, 4),
    ("pick", 1, 0, 4), ("wide", 0, 2), ("part", 0, 2, 5), ("join", 0, 1), ("op", "<", 0, 4),
)
NEXTS = (6, 11, 2)
STORES = ((0, 3, 0, 1), (0, 8, 4, 11))
OUTS = (10, 10, 0)
WHOLE = (REGISTERS, MEMORIES, ROWS, NEXTS, STORES, OUTS)
WIDTHS = [8, 1, 32, 2, 8, 8, 8, 8, 2, 4, 9, 1]

ODD = (True, False, None, "0", "", -1, (), (0,), 0.5, [0])


def with_part(thing, at, part):
    """A tuple with another part, deep inside if at is a tuple of places."""
    if isinstance(at, int):
        at = (at,)
    changed = part if len(at) == 1 else with_part(thing[at[0]], at[1:], part)
    return thing[:at[0]] + (changed,) + thing[at[0] + 1:]


def places(thing):
    """All places in a tuple of tuples."""
    for at, part in enumerate(thing):
        yield (at,)
        if isinstance(part, tuple):
            for inner in places(part):
                yield (at,) + inner


def at_place(thing, place):
    for at in place:
        thing = thing[at]
    return thing


class Rows(unittest.TestCase):
    """One row behind those of a circuit that is right."""

    def width(self, row):
        """The width of a row, 0 if it is none."""
        circuit = with_part(WHOLE, 2, ROWS + (row,))
        if not is_circuit(circuit):
            return 0
        self.assertEqual(widths_of(circuit)[:-1], WIDTHS)
        return widths_of(circuit)[-1]

    def judge(self, width, *rows):
        for row in rows:
            self.assertEqual(self.width(row), width, row)

    def test_literals(self):
        self.judge(1, ("lit", 0, 1), ("lit", 1, 1))
        self.judge(8, ("lit", 255, 8))
        self.judge(32, ("lit", 4294967295, 32))
        self.judge(0, ("lit", 2, 1), ("lit", 256, 8), ("lit", 4294967296, 32), ("lit", 0, 0), ("lit", 0, 33),
                   ("lit", -1, 8), ("lit", 0, -1), ("lit", 0, 10 ** 12), ("lit", 10 ** 12, 10 ** 12))

    def test_registers(self):
        self.judge(8, ("reg", 0))
        self.judge(32, ("reg", 2))
        self.judge(0, ("reg", 3), ("reg", -1))

    def test_looks(self):
        self.judge(8, ("look", 0, 3), ("look", 0, 8))
        self.judge(0, ("look", 2, 3), ("look", -1, 3), ("look", 0, 0), ("look", 0, 12), ("look", 0, -1),
                   ("look", 1, 3))

    def test_rows_ahead(self):
        self.judge(8, ("not", 0))
        self.judge(1, ("not", 11))
        self.judge(0, ("not", 12), ("not", 13), ("not", -1))
        for row in (("op", "+", 0, 12), ("op", "+", 12, 0), ("pick", 12, 0, 0), ("pick", 1, 12, 0), ("pick", 1, 0, 12),
                    ("wide", 12, 8), ("part", 12, 0, 0), ("join", 12, 0), ("join", 0, 12), ("join", 0, -1),
                    ("op", "+", -1, 0), ("pick", -1, 0, 0), ("wide", -12, 3)):
            self.judge(0, row)

    def test_operations(self):
        for sign in "+-*&|^":
            self.judge(8, ("op", sign, 0, 4))
            self.judge(1, ("op", sign, 1, 11))
            self.judge(32, ("op", sign, 2, 2))
            self.judge(0, ("op", sign, 0, 1), ("op", sign, 1, 0))
        for sign in ("==", "<"):
            self.judge(1, ("op", sign, 0, 4), ("op", sign, 2, 2))
            self.judge(0, ("op", sign, 0, 1))
        for sign in ("<<", ">>"):
            self.judge(8, ("op", sign, 0, 4), ("op", sign, 0, 1), ("op", sign, 0, 2))
            self.judge(1, ("op", sign, 1, 2))
        for sign in ("~", "?", ":=", "", ">", "++", "=", 0, None, True, ("+",), "join"):
            self.judge(0, ("op", sign, 0, 0))

    def test_others(self):
        self.judge(8, ("pick", 1, 0, 4), ("pick", 11, 5, 6))
        self.judge(0, ("pick", 0, 0, 4), ("pick", 1, 0, 1), ("pick", 3, 0, 4))
        self.judge(1, ("wide", 0, 1))
        self.judge(32, ("wide", 1, 32))
        self.judge(0, ("wide", 0, 0), ("wide", 0, 33), ("wide", 0, -1))
        self.judge(8, ("part", 0, 0, 7))
        self.judge(1, ("part", 0, 7, 7), ("part", 2, 31, 31))
        self.judge(0, ("part", 0, 0, 8), ("part", 0, 3, 2), ("part", 0, 8, 8), ("part", 0, -1, 3), ("part", 0, -2, -1))
        self.judge(9, ("join", 0, 1))
        self.judge(16, ("join", 0, 4))
        self.judge(0, ("join", 2, 1), ("join", 1, 2), ("join", 2, 2))
        self.assertTrue(is_circuit(((), (), (("lit", 0, 31), ("lit", 0, 1), ("join", 0, 1)), (), (), ())))
        self.assertFalse(is_circuit(((), (), (("lit", 0, 31), ("lit", 0, 2), ("join", 0, 1)), (), (), ())))

    def test_lengths_and_words(self):
        for row in ROWS:
            self.judge(0, row[:-1], row + (0,), row[1:], ("what",) + row[1:], (row,), (0,) + row[1:])
        self.judge(0, (), ("lit",), ("store", 0, 0, 0), ("name", "a"), ("let", 0), ("read", 0, 3), "lit", "reg", 0,
                   None, (None,), ((),), (("reg",), 0))


class Circuits(unittest.TestCase):
    def test_whole(self):
        self.assertIs(is_circuit(WHOLE), True)
        self.assertEqual(widths_of(WHOLE), WIDTHS)
        self.assertIs(is_circuit(((),) * 6), True)
        self.assertEqual(widths_of(((),) * 6), [])

    def test_a_new_list_each_time(self):
        widths_of(WHOLE).clear()
        self.assertEqual(widths_of(WHOLE), WIDTHS)

    def test_made_ones(self):
        for seed in range(60):
            circuit = made_circuit(seed)
            self.assertTrue(is_circuit(circuit))
            self.assertEqual(len(widths_of(circuit)), len(circuit[2]))

    def test_no_circuits_at_all(self):
        for thing in (None, True, False, 0, 1, "", "circuit", (), ((),), ((),) * 5, ((),) * 7, (None,) * 6, ("",) * 6,
                      (0,) * 6, "abcdef", list(WHOLE), WHOLE[:5], WHOLE + ((),), (WHOLE,), (((),),) + ((),) * 5):
            self.assertIs(is_circuit(thing), False, thing)

    def test_other_things_in_each_place(self):
        """No place takes a truth, None, a negative number or another string, and none of a tuple takes what is none."""
        for place in places(WHOLE):
            for odd in ODD:
                if isinstance(odd, tuple) and isinstance(at_place(WHOLE, place), tuple) and len(place) == 1:
                    continue
                self.assertIs(is_circuit(with_part(WHOLE, place, odd)), False, (place, odd))

    def test_tuples_too_short_or_too_long(self):
        for place in places(WHOLE):
            part = at_place(WHOLE, place)
            if isinstance(part, tuple) and place not in ((2,), (4,), (5,)):
                if place != (1,):
                    self.assertIs(is_circuit(with_part(WHOLE, place, part[:-1])), False, place)
                self.assertIs(is_circuit(with_part(WHOLE, place, part + (0,))), False, place)

    def test_registers(self):
        for register, right in (((1, 0), True), ((1, 1), True), ((1, 2), False), ((32, 4294967295), True),
                                ((32, 4294967296), False), ((33, 0), False), ((0, 0), False), ((8, 255), True),
                                ((8, 256), False), ((8, -1), False)):
            circuit = ((register,), (), (("reg", 0),), (0,), (), ())
            self.assertIs(is_circuit(circuit), right, register)

    def test_memories(self):
        for memory, right in (((1, 1), True), ((6, 32), True), ((0, 8), False), ((7, 8), False), ((1, 0), False),
                              ((1, 33), False), ((-1, 8), False), ((6, -8), False)):
            self.assertIs(is_circuit(((), (memory,), (), (), (), ())), right, memory)

    def test_nexts(self):
        for nexts, right in (((6, 11, 2), True), ((6, 11), False), ((6, 11, 2, 2), False), ((6, 11, 12), False),
                             ((11, 11, 2), False), ((6, 0, 2), False), ((6, 11, -10), False), ((), False)):
            self.assertIs(is_circuit(with_part(WHOLE, 3, nexts)), right, nexts)

    def test_stores(self):
        self.assertIs(is_circuit(with_part(WHOLE, 4, ((0, 3, 0, 1),))), True)
        for store in ((1, 3, 0, 1), (2, 3, 0, 1), (-2, 3, 0, 1), (0, 0, 0, 1), (0, 3, 1, 1), (0, 3, 0, 0),
                      (0, 3, 0, 12), (0, 12, 0, 1), (0, 3, 12, 1), (0, 3, 0), (0, 3, 0, 1, 1)):
            self.assertIs(is_circuit(with_part(WHOLE, 4, (store,))), False, store)

    def test_outs(self):
        for outs, right in (((), True), ((11,), True), ((0, 0, 0), True), ((12,), False), ((-1,), False)):
            self.assertIs(is_circuit(with_part(WHOLE, 5, outs)), right, outs)


if __name__ == "__main__":
    unittest.main()
