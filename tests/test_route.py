"""Promise 12.2."""

import random
import unittest

from fabrics import STEPS, made_packed, made_spots, readers
from stagecut.errors import CutError, NoRoute
from stagecut.place import place_cells
from stagecut.route import route_cells


def carried(ways):
    found = {}
    for way in ways:
        for edge in way:
            found[edge] = found.get(edge, 0) + 1
    return found


def come_to_by(spot, width, height, is_free):
    """All spots to which free edges lead."""
    found = [spot]
    for x, y in found:
        for dx, dy in STEPS:
            other = (x + dx, y + dy)
            if 0 <= other[0] < width and 0 <= other[1] < height and other not in found and is_free(((x, y), other)):
                found.append(other)
    return found


class Routing(unittest.TestCase):
    def judge(self, cells, spots, width, height, most):
        ways = route_cells(cells, spots, width, height, most)
        self.assertIs(type(ways), tuple)
        self.assertEqual(len(ways), len(cells))
        for at, way in enumerate(ways):
            self.judge_way(way, spots[at], [spots[reader] for reader in readers(cells, at)], width, height)
        self.assertLessEqual(max(carried(ways).values(), default=0), most)
        return ways

    def judge_way(self, way, begin, ends, width, height):
        self.assertIs(type(way), tuple)
        come_to = [begin]
        for edge in way:
            self.assertIs(type(edge), tuple)
            (x, y), other = edge
            self.assertIn((other[0] - x, other[1] - y), STEPS)
            self.assertTrue(0 <= other[0] < width and 0 <= other[1] < height)
            self.assertIn((x, y), come_to)
            self.assertNotIn(other, come_to)
            come_to.append(other)
        for end in ends:
            self.assertIn(end, come_to)
        # What is laid for a reader ends at its spot: where nothing goes on, there is one.
        for edge in way:
            if all(other[0] != edge[1] for other in way):
                self.assertIn(edge[1], ends)
        if way:
            self.assertIn(way[-1][1], ends)

    def judge_blocked(self, cells, spots, width, height, most):
        """True if ways are found; otherwise none is left for the cell that is told, behind the earlier ones."""
        try:
            self.judge(cells, spots, width, height, most)
            return True
        except NoRoute as error:
            blocked = error.cell
        self.assertTrue(0 < blocked < len(cells))
        # The earlier cells have the same ways if nobody reads the later ones.
        earlier = tuple((tuple(read for read in reads if read < blocked), bits, first) for reads, bits, first in cells)
        count = carried(route_cells(earlier, spots, width, height, most))
        found = come_to_by(spots[blocked], width, height, lambda edge: count.get(edge, 0) < most)
        self.assertTrue(any(spots[reader] not in found for reader in readers(cells, blocked)))
        return False

    def test_small(self):
        cells = (((1,), (0, 1), 0), ((0, 1), (0, 1, 1, 0), 0))
        ways = self.judge(cells, ((0, 0), (2, 0)), 3, 1, 1)
        self.assertEqual(ways, ((((0, 0), (1, 0)), ((1, 0), (2, 0))), (((2, 0), (1, 0)), ((1, 0), (0, 0)))))
        ways = self.judge(cells, ((0, 2), (0, 1)), 1, 3, 1)
        self.assertEqual(ways, ((((0, 2), (0, 1)),), (((0, 1), (0, 2)),)))

    def test_nothing_to_lead(self):
        self.assertEqual(self.judge((), (), 3, 3, 1), ())
        self.assertEqual(self.judge((((), (1,), None),), ((1, 1),), 2, 2, 1), ((),))
        # A cell that reads itself, and one that reads itself twice.
        self.assertEqual(self.judge((((0,), (1, 0), 0),), ((0, 0),), 1, 1, 1), ((),))
        self.assertEqual(self.judge((((0, 0), (1, 0, 0, 1), 0),), ((0, 1),), 2, 2, 1), ((),))

    def test_a_cell_that_is_read_twice_by_one(self):
        ways = self.judge((((), (1,), 0), ((0, 0), (1, 0, 0, 1), None)), ((0, 0), (1, 0)), 2, 1, 1)
        self.assertEqual(ways, ((((0, 0), (1, 0)),), ()))

    def test_one_cell_that_all_read(self):
        cells = (((), (1,), 0),) + tuple(((0,), (0, 1), None) for _ in range(11))
        spots = [(x, y) for y in range(3) for x in range(4)]
        ways = self.judge(cells, tuple(spots), 4, 3, 1)
        self.assertEqual(len(ways[0]), 11)
        self.judge(cells, tuple(spots[::-1]), 4, 3, 1)
        self.judge(cells, tuple(spots[5:] + spots[:5]), 4, 3, 1)

    def test_as_many_as_there_are_cells(self):
        for seed in range(80):
            many = seed % 13
            cells, _ = made_packed(seed, many)
            width, height = 4 + seed % 3, 3
            self.judge(cells, made_spots(seed, many, width, height), width, height, max(1, many))
            if many:
                self.judge(cells, made_spots(seed, many, many, 1), many, 1, many)

    def test_few_on_each_edge(self):
        met = {True: 0, False: 0}
        for seed in range(150):
            many = 2 + seed % 11
            cells, _ = made_packed(seed, many)
            width, height = ((4, 3), (13, 1), (6, 2), (5, 5))[seed % 4]
            spots = made_spots(seed, many, width, height)
            for most in (1, 2, 3):
                met[self.judge_blocked(cells, spots, width, height, most)] += 1
        self.assertGreater(min(met.values()), 60)

    def test_a_way_round(self):
        # The second cell cannot go the short way, over which the first one goes.
        cells = (((), (1,), 0), ((), (1,), 0), ((0,), (0, 1), None), ((1,), (0, 1), None))
        spots = ((0, 0), (1, 0), (3, 0), (2, 0))
        self.judge(cells, spots, 4, 2, 1)
        with self.assertRaises(NoRoute) as caught:
            route_cells(cells, spots, 4, 1, 1)
        self.assertEqual(caught.exception.cell, 1)
        self.judge(cells, spots, 4, 1, 2)

    def test_both_directions_count_apart(self):
        cells = (((1,), (0, 1), 0), ((0,), (0, 1), 0), ((3,), (0, 1), 0), ((2,), (0, 1), 0))
        with self.assertRaises(NoRoute) as caught:
            route_cells(cells, ((0, 0), (3, 0), (1, 0), (2, 0)), 4, 1, 1)
        self.assertEqual(caught.exception.cell, 2)
        self.judge(cells, ((0, 0), (3, 0), (1, 0), (2, 0)), 4, 1, 2)
        self.judge(cells, ((0, 0), (1, 0), (2, 0), (3, 0)), 4, 1, 1)

    def test_never_for_the_first_cell(self):
        for seed in range(40):
            cells, _ = made_packed(seed, 9)
            first = tuple((tuple(read for read in reads if read == 0), bits, None) for reads, bits, _ in cells)
            for width, height in ((9, 1), (1, 9), (3, 3), (4, 4)):
                self.judge(first, made_spots(seed, 9, width, height), width, height, 1)

    def test_error(self):
        self.assertTrue(issubclass(NoRoute, CutError))
        self.assertEqual(NoRoute(4).cell, 4)

    def test_placed_cells(self):
        chance = random.Random(3)
        for many in (30, 80):
            cells, _ = made_packed(chance.randrange(1000), many, 3)
            spots = place_cells(cells, 10, 9)
            self.judge(cells, spots, 10, 9, many)
            self.judge_blocked(cells, spots, 10, 9, 4)


if __name__ == "__main__":
    unittest.main()
