"""Promise 14.1: pipelines on fabrics."""

import unittest

from machines import made_machine, made_roms
from stagecut.cells import pack_cells
from stagecut.check import check
from stagecut.fabric import run_fabric
from stagecut.fabric_image import read_fabric, write_fabric
from stagecut.library import forms_text, machine_text
from stagecut.physical import by_fabric, fabric_of
from stagecut.run import assemble_text, by_steps, compile_text, net_of
from stagecut.tables import map_tables
from stagecut.timing import slowest

CODES = {
    "counter": (),
    "adder": ("load 0 5; load 1 7; add 2 0 1; take 3 2 0; add 2 2 2; rest; add 3 3 3;",),
    "jumper": ("load 5; next: add 3; loop next; add 100; rest; loop end; end: add 1; loop 0;",),
}


class Fabrics(unittest.TestCase):
    def judge(self, plan, roms, size, cycles):
        fabric = fabric_of(plan, roms, size)
        width, height, tiles, outs = fabric
        self.assertEqual(len(tiles), width * height)
        self.assertLessEqual(max(len(tile[0]) for tile in tiles), size)
        self.assertTrue(all(0 <= number < len(tiles) for number in outs))
        self.assertEqual(read_fabric(write_fabric(fabric)), fabric)
        self.assertEqual(len(run_fabric(fabric, cycles)), cycles)
        self.assertGreaterEqual(slowest(fabric), 2)
        told = by_fabric(plan, roms, size, cycles)
        self.assertIs(type(told), tuple)
        self.assertEqual(told, by_steps(plan, roms, cycles))
        return fabric

    def test_library(self):
        for name, codes in CODES.items():
            plan = compile_text(machine_text(name))
            roms = assemble_text(plan, forms_text(name), codes)
            for size in (2, 4, 6):
                self.judge(plan, roms, size, 24)

    def test_each_size(self):
        for seed in (4, 5, 9):
            plan = check(made_machine(seed, stages=2))
            for size in range(2, 7):
                self.judge(plan, made_roms(seed, plan), size, 16)

    def test_made_ones(self):
        for seed in range(30):
            plan = check(made_machine(seed, stages=1 + seed % 8))
            self.judge(plan, made_roms(seed, plan), 2 + seed % 5, 18)

    def test_nothing_but_that_it_is_done(self):
        plan = compile_text("machine m at 0:")
        fabric = self.judge(plan, (), 4, 3)
        self.assertEqual(fabric[:2], (1, 1))
        self.judge(compile_text("machine m at 0: at 1: at 2:"), (), 2, 6)

    def test_no_cycles(self):
        self.assertEqual(by_fabric(compile_text(machine_text("counter")), (), 4, 0), ())

    def test_room_for_all_cells(self):
        plan = compile_text(machine_text("counter"))
        fabric = fabric_of(plan, (), 4)
        cells, _ = pack_cells(map_tables(net_of(plan, ()), 4))
        self.assertGreaterEqual(fabric[0] * fabric[1], len([cell for cell in cells if cell[2] is not None]))


if __name__ == "__main__":
    unittest.main()
