"""Promise 14.3."""

import unittest

from machines import made_machine, made_roms
from stagecut.balance import balance
from stagecut.build import build
from stagecut.cells import pack_cells
from stagecut.check import check
from stagecut.fold import fold
from stagecut.levels import depth
from stagecut.library import forms_text, machine_text
from stagecut.report import print_report, sizes
from stagecut.run import assemble_text, compile_text, net_of
from stagecut.tables import map_tables, table_levels

NAMES = ["ands", "cells", "depth", "flat depth", "folded rows", "latches", "rows", "stages", "table levels", "tables"]


class Sizes(unittest.TestCase):
    def judge(self, plan, roms):
        found = sizes(plan, roms)
        self.assertIs(type(found), dict)
        self.assertEqual(sorted(found), NAMES)
        self.assertTrue(all(type(number) is int for number in found.values()))
        circuit = build(plan)
        net = net_of(plan, roms)
        tabled = map_tables(balance(net), 4)
        self.assertEqual(found["stages"], plan[0])
        self.assertEqual((found["rows"], found["folded rows"]), (len(circuit[2]), len(fold(circuit)[2])))
        self.assertEqual((found["latches"], found["ands"]), (len(net[0]), len(net[1])))
        self.assertEqual((found["depth"], found["flat depth"]), (depth(net), depth(balance(net))))
        self.assertEqual((found["tables"], found["table levels"]), (len(tabled[1]), table_levels(tabled)))
        self.assertEqual(found["cells"], len(pack_cells(tabled)[0]))
        self.assertLessEqual(found["folded rows"], found["rows"])
        self.assertLessEqual(found["flat depth"], found["depth"])
        self.assertLessEqual(found["table levels"], found["flat depth"])
        return found

    def test_library(self):
        found = self.judge(compile_text(machine_text("counter")), ())
        self.assertEqual((found["stages"], found["latches"]), (1, 8))
        for name, code in (("adder", "load 1 3; add 2 1 1;"), ("jumper", "load 3; loop 0;")):
            plan = compile_text(machine_text(name))
            self.judge(plan, assemble_text(plan, forms_text(name), (code,)))

    def test_made_ones(self):
        for seed in range(25):
            plan = check(made_machine(seed))
            self.judge(plan, made_roms(seed, plan))

    def test_hardly_anything(self):
        found = self.judge(compile_text("machine m at 0:"), ())
        self.assertEqual((found["latches"], found["ands"], found["depth"], found["tables"]), (0, 0, 0, 0))


class Reports(unittest.TestCase):
    def test_lines(self):
        self.assertEqual(print_report({"b": 2, "a b": 10, "a": 0, "Z": 7, "ab": 3}),
                         "Z: 7\na: 0\na b: 10\nab: 3\nb: 2\n")
        self.assertEqual(print_report({}), "")
        found = sizes(compile_text(machine_text("counter")), ())
        kept = dict(found)
        lines = print_report(found).split("\n")
        self.assertEqual(lines.pop(), "")
        self.assertEqual(lines, [f"{name}: {found[name]}" for name in NAMES])
        self.assertEqual(found, kept)


if __name__ == "__main__":
    unittest.main()
