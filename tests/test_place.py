"""Promise 12.1."""

import random
import unittest

from machines import made_net
from stagecut.cells import pack_cells
from stagecut.place import place_cells, wire_length
from stagecut.tables import map_tables


def made_cells(seed, many, most=4):
    """Cells that read any others; some of them nothing, themselves, or one cell twice."""
    chance = random.Random(seed)
    found = []
    for _ in range(many):
        reads = tuple(chance.randrange(many) for _ in range(chance.randint(0, most)))
        found.append((reads, tuple(chance.randrange(2) for _ in range(2 ** len(reads))), chance.choice((None, 0, 1))))
    return tuple(found)


def slow_length(cells, spots):
    total = 0
    for at, spot in enumerate(spots):
        near = [spot] + [spots[reader] for reader, cell in enumerate(cells) if at in cell[0]]
        for side in (0, 1):
            total += max(place[side] for place in near) - min(place[side] for place in near)
    return total


class Lengths(unittest.TestCase):
    def test_small(self):
        cells = (((1,), (0, 1), 0), ((), (1,), None), ((0, 1), (0, 1, 1, 0), None))
        self.assertEqual(wire_length(cells, ((0, 0), (2, 1), (0, 3))), 3 + 5)
        self.assertEqual(wire_length(cells, ((2, 1), (0, 0), (0, 3))), 4 + 5)
        self.assertEqual(wire_length((), ()), 0)
        self.assertEqual(wire_length((((), (0,), None),), ((3, 4),)), 0)
        self.assertEqual(wire_length((((0, 0), (0, 1, 1, 0), 1),), ((3, 4),)), 0)

    def test_any_spots(self):
        for seed in range(100):
            chance = random.Random(seed)
            cells = made_cells(seed, seed % 9)
            spots = tuple(chance.sample([(x, y) for x in range(7) for y in range(5)], len(cells)))
            self.assertEqual(wire_length(cells, spots), slow_length(cells, spots))


class Placing(unittest.TestCase):
    def judge(self, cells, width, height):
        spots = place_cells(cells, width, height)
        self.assertIs(type(spots), tuple)
        self.assertEqual((len(spots), len(set(spots))), (len(cells), len(cells)))
        for spot in spots:
            self.assertIs(type(spot), tuple)
            self.assertTrue(all(type(place) is int for place in spot))
            self.assertTrue(0 <= spot[0] < width and 0 <= spot[1] < height)
        self.judge_swaps(cells, spots, width, height)
        return spots

    def judge_swaps(self, cells, spots, width, height):
        """No swap of two spots makes the sum less."""
        least = slow_length(cells, spots)
        for at, old in enumerate(spots):
            for spot in [(x, y) for x in range(width) for y in range(height)]:
                changed = [old if other == spot else other for other in spots]
                changed[at] = spot
                self.assertGreaterEqual(slow_length(cells, changed), least)

    def test_one_by_one(self):
        self.assertEqual(self.judge((((), (1,), None),), 1, 1), ((0, 0),))
        self.assertEqual(self.judge((((0,), (1, 0), 0),), 1, 1), ((0, 0),))
        self.assertEqual(self.judge((), 1, 1), ())

    def test_one_row(self):
        for seed in range(30):
            many = 1 + seed % 9
            cells = made_cells(seed, many)
            self.judge(cells, many, 1)
            self.judge(cells, 1, many)
            self.judge(cells, many + 3, 1)
            self.judge(cells, 1, many + 2)

    def test_no_room_to_spare(self):
        for seed in range(30):
            for width, height in ((2, 2), (3, 3), (4, 3), (2, 5)):
                self.judge(made_cells(seed, width * height), width, height)

    def test_room_to_spare(self):
        for seed in range(40):
            cells = made_cells(seed, 2 + seed % 9)
            self.judge(cells, 4, 5)
            self.judge(cells, 7, 3)

    def test_a_pair(self):
        cells = (((1,), (0, 1), 0), ((0,), (0, 1), 0))
        for width, height in ((2, 1), (1, 2), (9, 9)):
            self.assertEqual(wire_length(cells, self.judge(cells, width, height)), 2)

    def test_a_chain(self):
        cells = tuple((((at - 1) % 12,), (0, 1), 0) for at in range(12))
        self.assertLess(wire_length(cells, self.judge(cells, 4, 4)), 24)

    def test_one_cell_that_all_read(self):
        cells = (((), (1,), 0),) + tuple(((0,), (0, 1), None) for _ in range(11))
        self.judge(cells, 4, 3)
        self.judge(cells, 5, 4)

    def test_packed_nets(self):
        for seed in range(12):
            cells, _ = pack_cells(map_tables(made_net(seed, latches=5, ands=25), 3))
            self.judge(cells, 5, 1 + len(cells) // 5)

    def test_many_cells(self):
        cells = made_cells(1, 400, 3)
        spots = place_cells(cells, 20, 20)
        self.assertEqual(len(set(spots)), 400)
        chance = random.Random(1)
        least = wire_length(cells, spots)
        for _ in range(300):
            one, other = chance.sample(range(400), 2)
            changed = list(spots)
            changed[one], changed[other] = spots[other], spots[one]
            self.assertGreaterEqual(wire_length(cells, changed), least)
        shuffled = list(spots)
        chance.shuffle(shuffled)
        self.assertLess(least, wire_length(cells, shuffled) * 3 // 4)


if __name__ == "__main__":
    unittest.main()
