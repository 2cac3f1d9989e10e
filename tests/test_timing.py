"""Promise 12.6."""

import unittest

from fabrics import made_packed, made_spots, slow_slowest, wandering_ways
from stagecut.fabric import set_up
from stagecut.route import route_cells
from stagecut.timing import slowest

OWN = ("own",)
NO_WIRES = ((), (), (), ())


def row_of(*tiles):
    return (len(tiles), 1, tiles, ())


class Times(unittest.TestCase):
    def test_no_sources(self):
        self.assertEqual(slowest(row_of(((), (1,), None, NO_WIRES))), 2)
        self.assertEqual(slowest(row_of(((), (1,), 0, NO_WIRES))), 2)
        self.assertEqual(slowest((3, 2, (((), (0,), None, NO_WIRES),) * 6, ())), 2)

    def test_latches_alone(self):
        self.assertEqual(slowest(row_of(((OWN,), (1, 0), 0, NO_WIRES))), 2)
        right = ((), (), (), ())
        tiles = [((), (1,), 0, ((OWN,), *right[1:]))]
        tiles += [((("in", 2, 0),), (0, 1), 0, ((OWN,), (), (), ())) for _ in range(3)]
        tiles.append(((("in", 2, 0),), (0, 1), 1, NO_WIRES))
        self.assertEqual(slowest(row_of(*tiles)), 3)

    def test_chains(self):
        # A latch, tables that turn its value, one behind the other, and a latch at the end.
        for many in range(6):
            tiles = [((), (1,), 0, ((OWN,), (), (), ()))]
            tiles += [((("in", 2, 0),), (1, 0), None, ((OWN,), (), (), ()))] * many
            tiles.append(((("in", 2, 0),), (1, 0), 0, NO_WIRES))
            self.assertEqual(slowest(row_of(*tiles)), 3 * (many + 1))

    def test_over_tiles(self):
        for many in range(6):
            for first, expected in ((0, 3 + many), (None, 5 + many)):
                tiles = [((), (1,), first, ((OWN,), (), (), ()))]
                tiles += [((), (0,), None, ((("in", 2, 0),), (), (), ()))] * many
                tiles.append(((("in", 2, 0),), (1, 0), 0, NO_WIRES))
                self.assertEqual(slowest(row_of(*tiles)), expected)

    def test_the_last_of_the_sources(self):
        # Its own latch, and a table beside it that reads it: 0 and 3 + 1.
        tiles = ((OWN, ("in", 0, 0)), (0, 1, 1, 0), 1, ((OWN,), (), (), ())), \
            ((("in", 2, 0),), (1, 0), None, ((), (), (OWN,), ()))
        self.assertEqual(slowest(row_of(*tiles)), 6)

    def test_a_tile_that_is_settled_last_but_not_told(self):
        tiles = (((), (1,), None, ((OWN,), (), (), ())), ((("in", 2, 0),), (1, 0), None, NO_WIRES))
        self.assertEqual(slowest((2, 1, tiles, (0,))), 5)

    def test_made_ones(self):
        for seed in range(120):
            many = seed % 13
            packed = made_packed(seed, many)
            width, height = ((4, 3), (12, 1), (1, 12), (5, 4))[seed % 4]
            spots = made_spots(seed, many, width, height)
            ways = route_cells(packed[0], spots, width, height, max(1, many))
            fabric = set_up(packed, spots, ways, width, height)
            self.assertEqual(slowest(fabric), slow_slowest(fabric))
            if width > 3 and height > 2:
                fabric = set_up(packed, spots, wandering_ways(seed, packed[0], spots, width, height), width, height)
                self.assertEqual(slowest(fabric), slow_slowest(fabric))

    def test_a_long_chain(self):
        many = 1500
        tiles = [((), (1,), 0, ((OWN,), (), (), ()))]
        tiles += [((("in", 2, 0),), (1, 0), None, ((OWN,), (), (), ()))] * many
        tiles.append(((("in", 2, 0),), (1, 0), None, NO_WIRES))
        self.assertEqual(slowest(row_of(*tiles)), 3 * (many + 1))


if __name__ == "__main__":
    unittest.main()
