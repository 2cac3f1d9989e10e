"""Promise 8.5."""

import unittest

from machines import made_circuit, made_contents, made_net
from stagecut.blast import blast
from stagecut.errors import BadLine
from stagecut.net_text import parse_net, print_net

NET = ((0, 1), ((2, 4), (3, 5), (7, 9)), (3, 11), (10, 2, 0))
TEXT = """net 2 3 3
latch 0 3
latch 1 11
told 10
told 2
told 0
and 2 4
and 3 5
and 7 9
"""
LINES = TEXT.split("\n")[:-1]
LAST = len(LINES)


def text_of(lines):
    return "".join(line + "\n" for line in lines)


class Printing(unittest.TestCase):
    def test_whole(self):
        self.assertEqual(print_net(NET), TEXT)
        self.assertEqual(parse_net(TEXT), NET)

    def test_small(self):
        for net, text in ((((),) * 4, "net 0 0 0\n"), (((1,), (), (0,), ()), "net 1 0 0\nlatch 1 0\n"),
                          (((), (), (), (1, 0)), "net 0 2 0\ntold 1\ntold 0\n"),
                          (((), ((0, 1),), (), ()), "net 0 0 1\nand 0 1\n")):
            self.assertEqual(print_net(net), text)
            self.assertEqual(parse_net(text), net)

    def test_made_ones(self):
        for seed in range(100):
            net = made_net(seed)
            self.assertEqual(parse_net(print_net(net)), net)
        for seed in range(20):
            circuit = made_circuit(seed)
            net = blast(circuit, made_contents(seed, circuit))
            self.assertEqual(parse_net(print_net(net)), net)


class Wrong(unittest.TestCase):
    def bad(self, text, line):
        with self.assertRaises(BadLine) as caught:
            parse_net(text)
        self.assertEqual(caught.exception.line, line, repr(text[:200]))

    def changed(self, at, line, told=None):
        """With another line in the place of one, counted from 1; told is what BadLine tells, if not this line."""
        self.bad(text_of(LINES[:at - 1] + [line] + LINES[at:]), at if told is None else told)

    def test_ends(self):
        self.bad("", 1)
        self.bad("net 0 0 0", 1)
        self.bad(TEXT[:-1], LAST)
        self.bad("what\never\n\nit is", 4)
        self.bad(TEXT + "x", LAST + 1)
        # The newline that is missing comes ahead of all else that is wrong.
        self.bad("nets 2 3 3\n" + text_of(LINES[1:4]) + "told", 5)

    def test_cut_off_anywhere(self):
        for at in range(len(TEXT)):
            text = TEXT[:at]
            # What ends with a newline has fewer lines than it tells.
            self.bad(text, 1 if text.endswith("\n") or text == "" else text.count("\n") + 1)

    def test_each_sign_another_one(self):
        for at, sign in enumerate(TEXT):
            for other in "x\t_-":
                text = TEXT[:at] + other + TEXT[at + 1:]
                line = TEXT[:at].count("\n") + 1
                if sign == "\n":
                    self.bad(text, LAST if line == LAST else 1)
                else:
                    self.bad(text, line)

    def test_a_line_away_or_twice(self):
        for at in range(LAST):
            self.bad(text_of(LINES[:at] + LINES[at + 1:]), 1)
            self.bad(text_of(LINES[:at + 1] + LINES[at:]), 1)
        self.bad(TEXT + "\n", 1)
        self.bad("\n" + TEXT, 1)
        self.bad("\n", 1)

    def test_lines_at_other_places(self):
        for at in range(LAST):
            for to in range(LAST):
                lines = LINES[:at] + LINES[at + 1:]
                lines.insert(to, LINES[at])
                words = [line.split(" ")[0] for line in lines]
                wrong = [number + 1 for number, line in enumerate(LINES) if line.split(" ")[0] != words[number]]
                if wrong:
                    self.bad(text_of(lines), wrong[0])
        self.bad(text_of(LINES[::-1]), 1)

    def test_first_lines(self):
        for line in ("net 2 3", "net 2 3 3 0", "net", "net 2 3 ", " net 2 3 3", "net 2  3 3", "nets 2 3 3", "Net 2 3 3",
                     "net 02 3 3", "net 2 03 3", "net 2 3 03", "net 2 3 -3", "net 2 3 x", "net 2 3 3.0", "net 3 2 3 ",
                     "net 2 3 4", "net 1 3 3", "net 2 4 3", "net 0 0 0", "", "latch 0 3", "net 2 3 \u0663"):
            self.changed(1, line, 1)
        # As many lines as are told, but others.
        self.changed(1, "net 3 2 3", 4)
        self.changed(1, "net 3 3 2", 4)
        self.changed(1, "net 1 4 3", 3)
        self.changed(1, "net 2 4 2", 7)
        self.changed(1, "net 2 2 4", 6)

    def test_other_lines(self):
        for at, word, numbers in ((2, "latch", "0 3"), (5, "told", "2"), (8, "and", "3 5")):
            for line in (word, f"{word} {numbers} 1", f"{word} {numbers} ", f" {word} {numbers}", f"{word}  {numbers}",
                         f"{word}s {numbers}", numbers, f"{word} 0{numbers}", f"{word} {numbers[:-1]}0{numbers[-1]}",
                         f"{word} {numbers[:-1]}", f"{word} {numbers[:-1]}-1", f"{word} {numbers[:-1]}x",
                         f"{word} {numbers[:-1]}\u0661", f"{word.title()} {numbers}", f"{word}\t{numbers}", "",
                         f"net {numbers}", f"{word} {numbers[:-1]}1.0", f"{word} {numbers}\r"):
                self.changed(at, line)

    def test_the_first_line_is_told(self):
        self.bad(text_of(LINES[:3] + ["told x", "told 02"] + LINES[5:]), 4)
        self.bad(text_of(LINES[:2] + ["latch 2 3", "told", "told 99", "told 0"] + LINES[6:]), 4)

    def test_many_digits(self):
        """A number of thousands of digits is a number."""
        for many in (11, 3000, 4300, 4301, 5000, 20000):
            nines = "9" * many
            self.changed(1, f"net {nines} 3 3", 1)
            self.changed(1, f"net 2 {nines} 3", 1)
            self.changed(1, f"net 2 3 {nines}", 1)
            for at, line in ((2, f"latch {nines} 3"), (2, f"latch 0 {nines}"), (4, f"told {nines}"),
                             (7, f"and {nines} 4"), (7, f"and 2 {nines}")):
                self.changed(at, line, LAST)
                self.bad(text_of(LINES[:at - 1] + [line] + LINES[at:-1] + ["and 7 x"]), LAST)
            self.bad(text_of(LINES[:1] + [f"latch {nines} 3"] + LINES[2:4] + ["told"] + LINES[5:]), 5)
            self.changed(2, f"latch 0 0{nines}")

    def test_no_nets(self):
        for at, line in ((2, "latch 2 3"), (2, "latch 0 12"), (3, "latch 1 12"), (4, "told 12"), (6, "told 100"),
                         (7, "and 6 4"), (7, "and 2 7"), (8, "and 3 8"), (9, "and 10 9"), (9, "and 7 11")):
            self.changed(at, line, LAST)
        self.bad("net 1 0 0\nlatch 0 4\n", 2)
        self.bad("net 0 1 0\ntold 2\n", 2)
        self.bad("net 0 0 1\nand 2 0\n", 2)


if __name__ == "__main__":
    unittest.main()
