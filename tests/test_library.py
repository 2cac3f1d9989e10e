"""Promise 13.5."""

import unittest

from stagecut.assemble import assemble, listed, parse_code, parse_forms
from stagecut.check import check
from stagecut.library import forms_text, machine_text
from stagecut.onestep import start, steps
from stagecut.parser import parse
from stagecut.printing import print_machine
from stagecut.run import assemble_text, compile_text, run_text

NAMES = ("counter", "adder", "jumper")


def done(name, code, cycles):
    """The records of what a machine of the library is done with."""
    return [record for record in run_text(machine_text(name), forms_text(name), (code,), cycles) if record is not None]


class Machines(unittest.TestCase):
    def test_texts(self):
        for name in NAMES:
            text = machine_text(name)
            self.assertEqual(parse(text)[0], name)
            self.assertEqual(print_machine(parse(text)), text)
            check(parse(text))

    def test_counter(self):
        plan = compile_text(machine_text("counter"))
        self.assertEqual([width for _, width in plan[1]], [8])
        self.assertEqual(plan[2], ())
        self.assertEqual(len(plan[3]), 1)
        self.assertEqual(parse_forms(forms_text("counter")), ())
        records, state = steps(plan, start(plan, ()), 300)
        self.assertEqual([lets[0] for lets, _ in records], [at % 256 for at in range(300)])
        self.assertEqual(state, ((300 % 256,), ()))
        told = run_text(machine_text("counter"), forms_text("counter"), (), 20)
        self.assertEqual([record[0][0] for record in told if record is not None][:10], list(range(10)))

    def test_roms_and_forms(self):
        for name in ("adder", "jumper"):
            plan = compile_text(machine_text(name))
            roms = [row for row in plan[2] if row[3]]
            self.assertEqual([bits for _, bits, _, _ in roms], [4])
            forms = parse_forms(forms_text(name))
            self.assertGreaterEqual(len(forms), 3)
            self.assertEqual(len({form for form, _ in forms}), len(forms))
            for _, fields in forms:
                self.assertEqual(sum(field[2] for field in fields), roms[0][2])
            self.judge_forms(forms, roms[0][2])

    def judge_forms(self, forms, width):
        """A statement of each form, with all arguments 0 and as great as can be."""
        for name, fields in forms:
            widths = [field[2] for field in fields if field[0] == "field"]
            for arguments in ((0,) * len(widths), tuple(2 ** width - 1 for width in widths)):
                words = assemble(forms, (((), name, arguments),), 4, width)
                self.assertEqual(listed(forms, words[:1], width), (((), name, arguments),))

    def test_no_code(self):
        """The zeros behind a code do nothing."""
        for name in ("adder", "jumper"):
            plan = compile_text(machine_text(name))
            _, state = steps(plan, start(plan, ((0,) * 16,)), 20)
            self.assertEqual(sum(state[0][1:]) + sum(sum(words) for words in state[1]), 0)

    def test_adder(self):
        code = "load 0 200; load 1 100; add 2 0 1; take 3 1 0; rest; add 0 0 0;"
        plan = compile_text(machine_text("adder"))
        roms = assemble_text(plan, forms_text("adder"), (code,))
        _, state = steps(plan, start(plan, roms), 6)
        self.assertEqual(state[1][0], (400 % 256, 100, 300 % 256, (100 - 200) % 256))
        values = [writes[-1][2] for _, writes in done("adder", code, 12)[:4]]
        self.assertEqual(values, [200, 100, 44, 156])

    def test_jumper(self):
        code = "load 3; again: add 10; loop out; rest; out: loop again; rest;"
        counts = [writes[-1][2] for _, writes in done("jumper", code, 40)]
        # 3, 13, 12 (to out), 11 (back), 21, 20, 19 ...
        self.assertEqual(counts[:8], [3, 13, 12, 11, 21, 20, 19, 29])
        plan = compile_text(machine_text("jumper"))
        self.assertTrue(plan[5])
        # Where the count is 0, it goes on; behind the last word it begins anew.
        counts = [writes[-1][2] for _, writes in done("jumper", "loop 3; load 1; loop 0;", 60)]
        self.assertEqual(counts[:7], [0, 1, 0, 0, 1, 0, 0])
        counts = [writes[-1][2] for _, writes in done("jumper", "load 9;", 60)]
        self.assertEqual(counts[:20], [9] * 20)

    def test_labels(self):
        self.assertEqual(parse_code("a: rest; loop a;"), ((("a",), "rest", ()), ((), "loop", ("a",))))
        with_label = done("jumper", "load 2; a: rest; loop a;", 30)
        self.assertEqual(with_label, done("jumper", "load 2; rest; loop 1;", 30))


if __name__ == "__main__":
    unittest.main()
