"""Promises 12.3 and 12.4."""

import unittest

from fabrics import made_packed, made_spots, slow_fabric, slow_origin, wandering_ways
from machines import made_net
from stagecut.cells import pack_cells, run_cells
from stagecut.fabric import run_fabric, set_up
from stagecut.gates import run_net
from stagecut.place import place_cells
from stagecut.route import route_cells
from stagecut.tables import map_tables

NO_WIRES = ((), (), (), ())
OWN = ("own",)


class SettingUp(unittest.TestCase):
    def judge(self, packed, spots, ways, width, height):
        fabric = set_up(packed, spots, ways, width, height)
        cells, outs = packed
        self.assertIs(type(fabric), tuple)
        self.assertEqual(fabric[:2], (width, height))
        self.assertEqual(fabric[3], tuple(spots[at][0] + spots[at][1] * width for at in outs))
        self.assertIs(type(fabric[2]), tuple)
        self.assertEqual(len(fabric[2]), width * height)
        for number, tile in enumerate(fabric[2]):
            spot = (number % width, number // width)
            cell = cells[spots.index(spot)] if spot in spots else ((), (0,), None)
            self.judge_tile(fabric, number, tile, cell, spots)
        edges = [edge for way in ways for edge in way]
        self.assertEqual(sum(len(led) for tile in fabric[2] for led in tile[3]), len(edges))
        told = run_cells(packed, 6)
        self.assertEqual(slow_fabric(fabric, 6), told)
        self.assertEqual(run_fabric(fabric, 6), told)
        return fabric

    def judge_tile(self, fabric, number, tile, cell, spots):
        width, height = fabric[:2]
        sources, bits, first, wires = tile
        self.assertEqual((bits, first), cell[1:])
        begins = [slow_origin(fabric, number, source)[0] for source in sources]
        self.assertEqual(begins, [spots[read][0] + spots[read][1] * width for read in cell[0]])
        self.assertEqual(len(wires), 4)
        x, y = number % width, number // width
        is_edge = (x == width - 1, y == height - 1, x == 0, y == 0)
        for led, is_last in zip(wires, is_edge):
            self.assertFalse(led and is_last)
            self.assertIs(type(led), tuple)
        for source in [*sources, *[source for led in wires for source in led]]:
            self.assertTrue(source == OWN or source[0] == "in" and len(source) == 3)
            slow_origin(fabric, number, source)

    def test_one_tile(self):
        # A latch that reads itself, told twice.
        fabric = self.judge(((((0,), (1, 0), 0),), (0, 0)), ((0, 0),), ((),), 1, 1)
        self.assertEqual(fabric, (1, 1, (((OWN,), (1, 0), 0, NO_WIRES),), (0, 0)))
        self.assertEqual(run_fabric(fabric, 3), ((0, 0), (1, 1), (0, 0)))

    def test_no_cells(self):
        fabric = self.judge(((), ()), (), (), 2, 1)
        self.assertEqual(fabric, (2, 1, (((), (0,), None, NO_WIRES),) * 2, ()))
        self.assertEqual(run_fabric(fabric, 2), ((), ()))

    def test_two_tiles(self):
        cells = (((1,), (0, 1), 1), ((0,), (1, 0), None))
        ways = ((((0, 0), (1, 0)),), (((1, 0), (0, 0)),))
        fabric = self.judge((cells, (1, 0)), ((0, 0), (1, 0)), ways, 2, 1)
        self.assertEqual(fabric[2][0], ((("in", 0, 0),), (0, 1), 1, ((OWN,), (), (), ())))
        self.assertEqual(fabric[2][1], ((("in", 2, 0),), (1, 0), None, ((), (), (OWN,), ())))
        ways = ((((0, 1), (0, 0)),), (((0, 0), (0, 1)),))
        fabric = self.judge((cells, (1, 0)), ((0, 1), (0, 0)), ways, 1, 2)
        self.assertEqual(fabric[2][1], ((("in", 3, 0),), (0, 1), 1, ((), (), (), (OWN,))))
        self.assertEqual(fabric[2][0], ((("in", 1, 0),), (1, 0), None, ((), (OWN,), (), ())))

    def test_over_a_tile_without_a_cell(self):
        cells = (((), (1,), None), ((0,), (1, 0), 0))
        ways = ((((0, 0), (1, 0)), ((1, 0), (2, 0))), ())
        fabric = self.judge((cells, (1,)), ((0, 0), (2, 0)), ways, 3, 1)
        self.assertEqual(fabric[2][1], ((), (0,), None, ((("in", 2, 0),), (), (), ())))
        self.assertEqual(run_fabric(fabric, 2), ((0,), (0,)))

    def test_several_wires_between_two_tiles(self):
        cells = (((), (1,), 0), ((), (1,), 1), ((0, 1, 0), (0, 1, 1, 0, 1, 0, 0, 1), None))
        ways = ((((0, 0), (1, 0)), ((1, 0), (2, 0))), (((1, 0), (2, 0)),), ())
        fabric = self.judge((cells, (2,)), ((0, 0), (1, 0), (2, 0)), ways, 3, 1)
        self.assertEqual(fabric[2][1][3][0], (("in", 2, 0), OWN))
        self.assertEqual(fabric[2][2][0], (("in", 2, 0), ("in", 2, 1), ("in", 2, 0)))

    def test_made_ones(self):
        for seed in range(120):
            many = seed % 13
            packed = made_packed(seed, many)
            width, height = ((4, 3), (12, 1), (1, 12), (5, 4))[seed % 4]
            spots = made_spots(seed, many, width, height)
            ways = route_cells(packed[0], spots, width, height, max(1, many))
            self.judge(packed, spots, ways, width, height)

    def test_other_ways(self):
        for seed in range(60):
            many = 1 + seed % 8
            packed = made_packed(seed, many)
            width, height = ((4, 3), (5, 4), (3, 3))[seed % 3]
            spots = made_spots(seed, many, width, height)
            self.judge(packed, spots, wandering_ways(seed, packed[0], spots, width, height), width, height)

    def test_nets(self):
        for seed in range(25):
            net = made_net(seed, latches=4, ands=30)
            packed = pack_cells(map_tables(net, 2 + seed % 5))
            many = len(packed[0])
            spots = place_cells(packed[0], 5, 1 + many // 5)
            ways = route_cells(packed[0], spots, 5, 1 + many // 5, many)
            fabric = self.judge(packed, spots, ways, 5, 1 + many // 5)
            self.assertEqual(run_fabric(fabric, 8), run_net(net, 8))

    def test_no_cycles(self):
        packed = made_packed(5, 4)
        spots = made_spots(5, 4, 2, 2)
        fabric = self.judge(packed, spots, route_cells(packed[0], spots, 2, 2, 4), 2, 2)
        self.assertEqual(run_fabric(fabric, 0), ())


if __name__ == "__main__":
    unittest.main()
