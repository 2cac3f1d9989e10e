"""Promise 6.6."""

import random
import unittest

from machines import made_circuit, made_contents
from stagecut.circuit_run import run_circuit
from stagecut.errors import BadLine
from stagecut.waves import changes, filled, print_waves, read_waves

TOLD = ((1, 0, 7), (1, 1, 7), (0, 1, 7), (0, 0, 8), (0, 0, 4294967295))
NAMES = ("clock", "b", "c.1")
TEXT = "cycles 5\nclock 1 . 0 . .\nb 0 1 . 0 .\nc.1 7 . . 8 4294967295\n"
# A number with more digits than Python reads at once.
LONG = "123456789" * 600
LONG_WORTH = sum(int(digit) * 10 ** at for at, digit in enumerate(LONG[::-1]))


class Changes(unittest.TestCase):
    def test_what_stays_and_what_changes(self):
        found = (
            (0, 0, 1), (0, 1, 0), (0, 2, 7), (1, 1, 1), (2, 0, 0), (3, 1, 0), (3, 2, 8), (4, 2, 4294967295),
        )
        self.assertEqual(changes(TOLD), found)
        self.assertEqual(filled(found, 5), TOLD)

    def test_all_of_cycle_0(self):
        self.assertEqual(changes(((0, 0, 0),)), ((0, 0, 0), (0, 1, 0), (0, 2, 0)))
        self.assertEqual(changes(((5,), (5,), (5,))), ((0, 0, 5),))
        self.assertEqual(filled(((0, 0, 5),), 3), ((5,), (5,), (5,)))

    def test_back_to_what_it_was(self):
        self.assertEqual(changes(((3,), (4,), (3,))), ((0, 0, 3), (1, 0, 4), (2, 0, 3)))

    def test_nothing(self):
        self.assertEqual(changes(()), ())
        self.assertEqual(filled((), 0), ())
        self.assertEqual(changes(((), (), ())), ())
        self.assertEqual(filled((), 3), ((), (), ()))

    def test_fewer_and_more_cycles(self):
        self.assertEqual(filled(changes(TOLD), 2), TOLD[:2])
        self.assertEqual(filled(changes(TOLD), 7), TOLD + TOLD[4:] * 2)

    def test_arguments_stay(self):
        found = list(changes(TOLD))
        kept = list(found)
        filled(found, 5)
        self.assertEqual(found, kept)

    def test_made_ones(self):
        for seed in range(60):
            circuit = made_circuit(seed)
            told = run_circuit(circuit, made_contents(seed, circuit), seed % 9)
            found = changes(told)
            self.assertEqual(list(found), sorted(found))
            self.assertEqual(filled(found, seed % 9), told)
            names = tuple(f"n{at}" for at in range(len(circuit[5])))
            self.assertEqual(read_waves(print_waves(names, told)), (names, told))


class Texts(unittest.TestCase):
    def test_whole(self):
        self.assertEqual(print_waves(NAMES, TOLD), TEXT)
        self.assertEqual(read_waves(TEXT), (NAMES, TOLD))

    def test_no_names(self):
        self.assertEqual(print_waves((), ((), ())), "cycles 2\n")
        self.assertEqual(read_waves("cycles 2\n"), ((), ((), ())))

    def test_no_cycles(self):
        self.assertEqual(print_waves(("a", "b"), ()), "cycles 0\na\nb\n")
        self.assertEqual(read_waves("cycles 0\na\nb\n"), (("a", "b"), ()))
        self.assertEqual(print_waves((), ()), "cycles 0\n")
        self.assertEqual(read_waves("cycles 0\n"), ((), ()))

    def test_a_value_that_stays(self):
        self.assertEqual(read_waves("cycles 3\na 5 5 .\n"), (("a",), ((5,), (5,), (5,))))
        self.assertEqual(read_waves("cycles 4\na 0 . 0 1\n"), (("a",), ((0,), (0,), (0,), (1,))))

    def test_names(self):
        for name in (".", "0", "cycles", "a=b", "\t", "x" * 300):
            text = print_waves((name, name), ((1, 2),))
            self.assertEqual(read_waves(text), ((name, name), ((1, 2),)))

    def test_long_values(self):
        told = ((LONG_WORTH, 1), (LONG_WORTH, 0), (LONG_WORTH + 1, 0))
        text = print_waves(("a", "b"), told)
        self.assertTrue(text == f"cycles 3\na {LONG} . {LONG[:-2]}90\nb 1 0 .\n")
        names, found = read_waves(text)
        self.assertEqual(names, ("a", "b"))
        self.assertTrue(found == told)
        self.assertTrue(read_waves(f"cycles 1\na {LONG}\n")[1][0][0] == LONG_WORTH)

    def test_random_ones(self):
        chance = random.Random(1)
        for _ in range(60):
            many = chance.randint(0, 4)
            told = tuple(tuple(chance.choice((0, 1, 10, 4294967295)) for _ in range(many))
                         for _ in range(chance.randint(0, 6)))
            names = tuple(chance.choice(("a", "bc", "d_1")) for _ in range(many))
            self.assertEqual(read_waves(print_waves(names, told)), (names, told))
            self.assertEqual(filled(changes(told), len(told)), told)


class Wrong(unittest.TestCase):
    def bad(self, text, line):
        with self.assertRaises(BadLine) as caught:
            read_waves(text)
        self.assertEqual(caught.exception.line, line, repr(text[:200]))

    def test_ends(self):
        self.bad("", 1)
        self.bad("cycles 0", 1)
        self.bad(TEXT[:-1], 4)
        self.bad(TEXT + "x", 5)
        self.bad("what\never\n\nit is", 4)
        # The newline that is missing comes ahead of all else that is wrong.
        self.bad("cycles 02\n\na", 3)

    def test_first_lines(self):
        for line in ("cycles", "cycles ", "cycles x", "cycles -1", "cycles +1", "cycles 00", "cycles 02", "cycles 2 ",
                     "cycles  2", " cycles 2", "cycles 2 2", "Cycles 2", "cycle 2", "2", "cycles\t2", "cycles \xb2",
                     "cycles \u0662", "", "a 0 1", "cycles 1_0", "cycles 0" + LONG):
            self.bad(line + "\na 0 1\n", 1)
            self.bad(line + "\n", 1)

    def test_numbers_of_parts(self):
        for line in ("a", "a 0", "a 0 1 1", "", " ", "a 0  1", "a 0 1 ", "a  0 1", "0 1"):
            self.bad(f"cycles 2\n{line}\n", 2)
            self.bad("cycles 2\na 0 1\nb . 1\n", 3)
            self.bad(f"cycles 2\na 0 1\nb 1 .\n{line}\nd .\n", 4)
        self.bad("cycles 0\na 0\n", 2)
        self.bad("cycles 0\n\n", 2)
        self.bad("cycles 1\n0\n", 2)
        self.bad(TEXT + "\n", 5)

    def test_names_are_not_empty(self):
        self.bad("cycles 2\n 0 1\n", 2)
        self.bad("cycles 1\na 1\n .\n", 3)
        self.bad("cycles 1\n 1\n", 2)

    def test_parts(self):
        self.bad("cycles 2\na . 1\n", 2)
        self.bad("cycles 1\na .\n", 2)
        self.bad("cycles 2\na 1 1\nb . .\n", 3)
        for part in ("00", "01", "x", "-1", "+1", "1.0", "..", "0x1", "1w8", "\u0661", "\xb2", "1_0", "None", "1\r",
                     "\t1", "0" + LONG, LONG + "x", "-"):
            self.bad(f"cycles 2\na 1 {part}\n", 2)
            self.bad(f"cycles 2\na {part} 1\n", 2)
            self.bad(f"cycles 2\na 1 .\nb 1 {part}\nc\n", 3)

    def test_many_digits(self):
        """A number of thousands of digits is a number; the line with too few parts is what is wrong."""
        for many in (20, 3000, 4300, 4301, 5000, 20000):
            self.bad("cycles " + "9" * many + "\na 1\n", 2)
            self.bad("cycles 2\na " + "9" * many + "\n", 2)
            self.bad("cycles 2\na " + "9" * many + " 1\nb 1\n", 3)


if __name__ == "__main__":
    unittest.main()
