"""Promise 6.5."""

import unittest

from machines import made_circuit
from stagecut.circuit_text import parse_circuit, print_circuit
from stagecut.errors import BadLine

CIRCUIT = (
    ((8, 0), (1, 1)),
    ((2, 8),),
    (
        ("reg", 0), ("reg", 1), ("lit", 3, 2), ("look", 0, 2), ("not", 0), ("op", "+", 0, 3), ("pick", 1, 0, 4),
        ("wide", 0, 9), ("part", 0, 2, 5), ("join", 0, 1), ("op", "<<", 0, 1),
    ),
    (5, 1),
    ((0, 2, 0, 1), (0, 2, 5, 1)),
    (9, 0, 0),
)
TEXT = """register 8 0
register 1 1
memory 2 8
row reg 0
row reg 1
row lit 3 2
row look 0 2
row not 0
row op + 0 3
row pick 1 0 4
row wide 0 9
row part 0 2 5
row join 0 1
row op << 0 1
next 5 1
store 0 2 0 1
store 0 2 5 1
told 9 0 0
"""
LINES = TEXT.split("\n")[:-1]
LAST = len(LINES)
NEXT = LINES.index("next 5 1") + 1


def text_of(lines):
    return "".join(line + "\n" for line in lines)


class Printing(unittest.TestCase):
    def test_whole(self):
        self.assertEqual(print_circuit(CIRCUIT), TEXT)
        self.assertEqual(parse_circuit(TEXT), CIRCUIT)

    def test_small(self):
        self.assertEqual(print_circuit(((),) * 6), "next\ntold\n")
        self.assertEqual(parse_circuit("next\ntold\n"), ((),) * 6)
        circuit = ((), ((1, 1),), (("lit", 4294967295, 32),), (), (), ())
        self.assertEqual(print_circuit(circuit), "memory 1 1\nrow lit 4294967295 32\nnext\ntold\n")
        self.assertEqual(parse_circuit(print_circuit(circuit)), circuit)

    def test_signs(self):
        for sign in ("+", "-", "*", "&", "|", "^", "==", "<", "<<", ">>"):
            circuit = ((), (), (("lit", 1, 1), ("op", sign, 0, 0)), (), (), (1,))
            self.assertEqual(print_circuit(circuit), f"row lit 1 1\nrow op {sign} 0 0\nnext\ntold 1\n")
            self.assertEqual(parse_circuit(print_circuit(circuit)), circuit)

    def test_made_ones(self):
        for seed in range(100):
            circuit = made_circuit(seed)
            self.assertEqual(parse_circuit(print_circuit(circuit)), circuit)


class Wrong(unittest.TestCase):
    def bad(self, text, line):
        with self.assertRaises(BadLine) as caught:
            parse_circuit(text)
        self.assertEqual(caught.exception.line, line, repr(text))

    def changed(self, at, line, told=None):
        """With another line in the place of one, counted from 1; told is what BadLine tells, if not this line."""
        self.bad(text_of(LINES[:at - 1] + [line] + LINES[at:]), at if told is None else told)

    def test_ends(self):
        self.bad("", 1)
        self.bad("x", 1)
        self.bad("next\ntold", 2)
        self.bad(TEXT[:-1], LAST)
        self.bad("what\never\n\nit is", 4)
        self.bad("\n", 1)
        self.bad(TEXT + "\n", LAST + 1)
        self.bad(TEXT + " ", LAST + 1)

    def test_first_words(self):
        for line in ("", " ", "rows reg 0", "Row reg 0", "reg 0", " row reg 0", "registers 8 0", "lit 3 2",
                     "row\treg 0",
                     "nexts", "5", "row_ reg 0", "end"):
            self.bad(text_of(LINES[:4] + [line] + LINES[4:]), 5)
            self.bad(text_of([line] + LINES), 1)

    def test_order(self):
        self.bad(text_of(LINES[:2] + ["row reg 0"] + LINES[2:]), 4)
        self.bad(text_of(["memory 2 8"] + LINES), 2)
        for at in range(3, LAST):
            self.bad(text_of(LINES[:at] + ["register 8 0"] + LINES[at:]), at + 1)
        for at in range(4, LAST):
            self.bad(text_of(LINES[:at] + ["memory 2 8"] + LINES[at:]), at + 1)
        for at in range(NEXT, LAST + 1):
            self.bad(text_of(LINES[:at] + ["row reg 0"] + LINES[at:]), at + 1)

    def test_next_and_told(self):
        # A second next, or told.
        for at in range(NEXT, LAST + 1):
            self.bad(text_of(LINES[:at] + ["next 5 1"] + LINES[at:]), at + 1)
        self.bad(text_of(LINES + ["told 9 0 0"]), LAST + 1)
        self.bad(text_of(LINES + ["told"]), LAST + 1)
        # A store or told ahead of next.
        self.bad(text_of(["store 0 2 0 1"] + LINES), 1)
        self.bad(text_of(["told"] + LINES), 1)
        for at in range(1, NEXT):
            self.bad(text_of(LINES[:at] + ["store 0 2 0 1"] + LINES[at:]), at + 1)
            self.bad(text_of(LINES[:at] + ["told 9"] + LINES[at:]), at + 1)
        # A store behind told.
        self.bad(text_of(LINES + ["store 0 2 0 1"]), LAST + 1)
        # One of them, or both, missing.
        self.bad(text_of(LINES[:-1]), LAST - 1)
        self.bad(text_of(LINES[:NEXT]), NEXT)
        self.bad(text_of(LINES[:NEXT - 1]), NEXT - 1)
        self.bad(text_of(LINES[:NEXT - 1] + LINES[NEXT:]), NEXT)
        self.bad(text_of(LINES[:1]), 1)
        self.bad("next\n", 1)
        self.bad("told\n", 1)

    def test_lines_that_are_moved_or_left_out(self):
        self.bad(text_of(LINES[1:2] + LINES[2:3] + LINES[:1] + LINES[3:]), 3)
        self.bad(text_of(LINES[:NEXT - 1] + [LINES[NEXT], LINES[NEXT - 1]] + LINES[NEXT + 1:]), NEXT)
        self.bad(text_of(LINES[:-2] + [LINES[-1], LINES[-2]]), LAST)
        self.bad(text_of(LINES[::-1]), 1)
        # Rows that name rows which are not ahead of them any longer are right lines of no circuit.
        self.bad(text_of(LINES[:3] + LINES[4:]), LAST - 1)
        self.bad(text_of(LINES[:3] + LINES[7:8] + LINES[3:7] + LINES[8:]), LAST)
        self.bad(text_of(LINES[1:]), LAST - 1)

    def test_numbers_of_parts(self):
        self.bad(text_of(LINES[:3] + ["row"] + LINES[3:]), 4)
        for at, line in enumerate(LINES):
            word = line.split(" ")[0]
            if word not in ("next", "told"):
                self.changed(at + 1, line.rsplit(" ", 1)[0])
                self.changed(at + 1, line + " 0")
            self.changed(at + 1, line + " ")
            self.changed(at + 1, line.replace(" ", "  ", 1))
            self.changed(at + 1, line + " x")
        self.changed(1, "register")
        for line in ("row op", "row op +", "row op + 0", "row reg", "row lit", "row pick"):
            self.changed(9, line)
        self.changed(3, "memory 2")

    def test_parts(self):
        for part in ("00", "01", "x", "-1", "+1", "", "1.0", "12345678901", "00000000000", "0x1", "1w8", "\u0661",
                     "\xb2", "1_0", "None", "True", "+", "1\r", "\t1"):
            self.changed(1, f"register {part} 0")
            self.changed(1, f"register 8 {part}")
            self.changed(3, f"memory 2 {part}")
            self.changed(4, f"row reg {part}")
            self.changed(6, f"row lit {part} 2")
            self.changed(9, f"row op + 0 {part}")
            self.changed(10, f"row pick 1 {part} 4")
            self.changed(NEXT, f"next 5 {part}")
            self.changed(NEXT + 1, f"store 0 2 0 {part}")
            self.changed(LAST, f"told 9 {part} 0")

    def test_words_of_rows(self):
        for word in ("let", "read", "name", "row", "5", "", "Lit", "store", "+"):
            self.changed(4, f"row {word} 0")
        for sign in ("~", "?", "=", ":=", ">", "0", "", "++", "op", "<=", "%"):
            self.changed(9, f"row op {sign} 0 3")

    def test_no_circuits(self):
        """Lines that can all stand, of something that is no circuit: the last line."""
        for at, line in (
            (1, "register 33 0"), (1, "register 8 256"), (1, "register 0 0"), (1, "register 8 9999999999"),
            (3, "memory 7 8"), (3, "memory 0 8"), (3, "memory 2 33"), (3, "memory 3 8"), (4, "row reg 2"),
            (4, "row not 0"), (5, "row not 1"), (6, "row lit 4 2"), (7, "row look 1 2"), (7, "row look 0 0"),
            (9, "row op + 0 1"), (9, "row op + 0 5"), (10, "row pick 0 0 4"), (11, "row wide 0 33"),
            (11, "row wide 0 0"), (12, "row part 0 2 8"), (12, "row part 0 3 2"), (NEXT, "next 1 5"),
            (NEXT, "next 5 11"), (NEXT, "next 5 1 1"), (NEXT, "next 5"), (NEXT, "next"), (NEXT + 1, "store 1 2 0 1"),
            (NEXT + 1, "store 0 0 0 1"), (NEXT + 1, "store 0 2 1 1"), (NEXT + 1, "store 0 2 0 0"), (LAST, "told 11"),
        ):
            self.changed(at, line, LAST)

    def test_the_first_line_is_told(self):
        self.bad(text_of(LINES[:5] + ["row x", "told"] + LINES[5:-1]), 6)
        self.bad(text_of(["register 33 0"] + LINES[1:-1]), LAST - 1)
        self.bad(text_of(["register 33 0"] + LINES[1:5] + ["row lit 3"] + LINES[6:]), 6)


if __name__ == "__main__":
    unittest.main()
