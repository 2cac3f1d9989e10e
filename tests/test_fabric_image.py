"""Promise 12.5."""

import unittest

from fabrics import made_packed, made_spots, wandering_ways
from stagecut.errors import BadImage
from stagecut.fabric import run_fabric, set_up
from stagecut.fabric_image import read_fabric, write_fabric
from stagecut.route import route_cells

OWN = ("own",)
NO_WIRES = ((), (), (), ())
# A latch to the left, whose other value the table to the right hands back.
FABRIC = (2, 1, (((("in", 0, 0),), (0, 1), 1, ((OWN,), (), (), ())),
                 ((("in", 2, 0),), (1, 0), None, ((), (), (OWN,), ()))), (1, 0, 1))
ROW = [2, 1, 3, 1, 0, 1,
       1, 1, 0, 2, 1, 1, 0, 0, 0, 0,
       1, 3, 0, 1, 2, 0, 0, 1, 0, 0]


def made_fabric(seed):
    many = seed % 10
    packed = made_packed(seed, many)
    width, height = ((4, 3), (3, 4), (9, 1), (5, 2))[seed % 4]
    spots = made_spots(seed, many, width, height)
    if seed % 3:
        ways = wandering_ways(seed, packed[0], spots, width, height) if width > 2 < height else None
        if ways is not None:
            return set_up(packed, spots, ways, width, height)
    return set_up(packed, spots, route_cells(packed[0], spots, width, height, max(1, many)), width, height)


class Writing(unittest.TestCase):
    def judge(self, fabric):
        row = write_fabric(fabric)
        self.assertIs(type(row), list)
        self.assertTrue(all(type(part) is int and 0 <= part < 256 for part in row))
        self.assertEqual(read_fabric(row), fabric)
        return row

    def test_small(self):
        self.assertEqual(self.judge(FABRIC), ROW)
        self.assertEqual(self.judge((1, 1, (((), (0,), None, NO_WIRES),), ())), [1, 1, 0, 0, 0, 2, 0, 0, 0, 0])
        self.assertEqual(self.judge((1, 1, (((OWN,), (1, 1), 0, NO_WIRES),), (0,))), [1, 1, 1, 0, 1, 0, 3, 0, 0, 0, 0, 0])

    def test_directions(self):
        """A wire to each neighbour of the middle one, and one back from each."""
        tiles = []
        for number in range(9):
            back = {5: 2, 7: 3, 3: 0, 1: 1}.get(number)
            wires = [()] * 4
            if back is not None:
                wires[back] = (("in", back, 0), OWN)
            tiles.append(((), (number % 2,), None, tuple(wires)))
        tiles[4] = (tuple(("in", direction, 1) for direction in range(4)), (1,) * 16, None,
                    tuple((OWN,) for _ in range(4)))
        row = self.judge((3, 3, tuple(tiles), (4, 8, 0)))
        middle = row.index(4, 6)
        self.assertEqual(row[middle:middle + 20], [4, 1, 1, 2, 1, 3, 1, 4, 1, 255, 255, 3, 2, 1, 0, 1, 0, 1, 0, 1])

    def test_a_table_of_six_sources(self):
        bits = tuple(at % 5 % 2 for at in range(64))
        row = self.judge((1, 1, (((OWN,) * 6, bits, 1, NO_WIRES),), ()))
        number = sum(bit << at for at, bit in enumerate(bits))
        self.assertEqual(sum((byte & 127) << 7 * at for at, byte in enumerate(row[10:-5])), number)

    def test_made_ones(self):
        for seed in range(120):
            fabric = made_fabric(seed)
            row = self.judge(fabric)
            self.assertEqual(run_fabric(read_fabric(row), 4), run_fabric(fabric, 4))

    def test_many_wires_and_tiles(self):
        wires = tuple(OWN for _ in range(300))
        tiles = [((), (0,), None, NO_WIRES)] * 200
        tiles[0] = ((), (1,), 0, (wires, (), (), ()))
        tiles[1] = ((("in", 2, 299),), (0, 1), 0, NO_WIRES)
        self.judge((200, 1, tuple(tiles), (199, 1)))


class Wrong(unittest.TestCase):
    def bad(self, row):
        kept = list(row)
        with self.assertRaises(BadImage):
            read_fabric(row)
        self.assertEqual(row, kept)

    def bad_fabric(self, *tiles, width=None, outs=()):
        self.bad(write_fabric((len(tiles) if width is None else width, 1, tiles, outs)))

    def test_cut_off(self):
        for fabric in (FABRIC, made_fabric(5), made_fabric(9)):
            row = write_fabric(fabric)
            for at in range(len(row)):
                self.bad(row[:at])

    def test_more_bytes(self):
        for fabric in (FABRIC, made_fabric(5)):
            for more in ([0], [1], [128], [0, 0], [255]):
                self.bad(write_fabric(fabric) + more)

    def test_more_bytes_than_a_number_needs(self):
        for at, number in enumerate(ROW):
            self.bad(ROW[:at] + [number + 128, 0] + ROW[at + 1:])
            self.bad(ROW[:at] + [number + 128, 128, 0] + ROW[at + 1:])
            self.bad(ROW[:at] + [number + 128] + ROW[at + 1:])

    def test_no_tiles(self):
        for row in ([0, 0, 0], [0, 1, 0], [1, 0, 0], [5, 0, 0], [0, 5, 1, 0], []):
            self.bad(row)

    def test_far_more_tiles_than_the_row_has(self):
        self.bad([255] * 9 + [1] + ROW[1:])
        self.bad(ROW[:1] + [255] * 9 + [1] + ROW[2:])
        self.bad(ROW[:2] + [255] * 9 + [1] + ROW[3:])
        for at in range(len(ROW)):
            self.bad(ROW[:at] + [255] * 40 + [1] + ROW[at + 1:])

    def test_told_tiles(self):
        read_fabric(ROW[:3] + [0, 0, 0] + ROW[6:])
        for at in (3, 4, 5):
            for number in (2, 3, 127):
                self.bad(ROW[:at] + [number] + ROW[at + 1:])

    def test_bits_beyond_the_table(self):
        for at, limit in ((9, 4), (19, 4)):
            for number in range(128):
                row = ROW[:at] + [number] + ROW[at + 1:]
                if number < limit:
                    read_fabric(row)
                else:
                    self.bad(row)
        self.bad([1, 1, 0, 0, 2, 2, 0, 0, 0, 0])

    def test_more_than_six_sources(self):
        for many in (7, 8):
            self.bad_fabric(((OWN,) * many, (0,) * 2 ** many, None, NO_WIRES))
            self.bad_fabric(((OWN,) * many, (0,), None, NO_WIRES))

    def test_first_values(self):
        for at in (10, 20):
            for number in range(128):
                row = ROW[:at] + [number] + ROW[at + 1:]
                if number < 3:
                    self.assertEqual(read_fabric(row)[2][0 if at == 10 else 1][2], (0, 1, None)[number])
                else:
                    self.bad(row)

    def test_kinds_of_sources(self):
        # The source of the left table: 1 is the neighbour to the right.
        for number in (2, 3, 4, 5, 6, 127):
            self.bad(ROW[:7] + [number] + ROW[8:])
        read_fabric(ROW[:7] + [0] + ROW[9:])
        # The wires behind a first value.
        self.bad(ROW[:12] + [5] + ROW[13:])

    def test_wires_that_are_not_there(self):
        for at in (8, 18):
            for number in (1, 2, 127):
                self.bad(ROW[:at] + [number] + ROW[at + 1:])
        # From beyond the grid.
        for direction in (1, 2, 3):
            self.bad_fabric(((("in", direction, 0),), (0, 1), 0, ((OWN,), (), (), ())), FABRIC[2][1])
        self.bad_fabric(FABRIC[2][0], ((), (0,), None, ((), (), (("in", 0, 0),), ())))

    def test_wires_off_the_grid(self):
        plain = ((), (0,), None, NO_WIRES)
        for direction in (1, 2, 3):
            wires = tuple((OWN,) if at == direction else () for at in range(4))
            self.bad_fabric(((), (0,), None, wires), plain)
        for direction in (0, 1, 3):
            wires = tuple((OWN,) if at == direction else () for at in range(4))
            self.bad_fabric(plain, ((), (0,), None, wires))

    def test_wires_in_a_ring(self):
        left = ((), (0,), None, ((("in", 0, 0),), (), (), ()))
        right = ((), (0,), None, ((), (), (("in", 2, 0),), ()))
        self.bad_fabric(left, right)
        self.bad_fabric(((("in", 0, 0),), (0, 1), None, left[3]), right)
        # With an own value in it there is none.
        read_fabric(write_fabric((2, 1, (left, ((), (0,), None, ((), (), (OWN,), ()))), ())))
        # A ring of four, and a way that leads into it.
        ring = [((), (0,), None, wires) for wires in (((("in", 1, 0),), (), (), ()), ((), (("in", 2, 0),), (), ()),
                                                      ((), (), (), (("in", 0, 0),)), ((), (), (("in", 3, 0),), ()))]
        self.bad(write_fabric((2, 2, tuple(ring), ())))
        ring[3] = ((("in", 3, 0),), (0, 1), 0, ((), (), (OWN,), ()))
        read_fabric(write_fabric((2, 2, tuple(ring), ())))

    def test_what_is_no_byte(self):
        for at in range(len(ROW)):
            for part in (-1, 256, ROW[at] + 256, ROW[at] - 256):
                self.bad(ROW[:at] + [part] + ROW[at + 1:])

    def test_one_row_for_one_fabric(self):
        """Whatever is read is written as the same row again, and can be run."""
        for at in range(len(ROW)):
            for byte in range(256):
                row = ROW[:at] + [byte] + ROW[at + 1:]
                try:
                    fabric = read_fabric(row)
                except BadImage:
                    continue
                self.assertEqual(write_fabric(fabric), row)
                self.assertEqual(len(run_fabric(fabric, 3)), 3)

    def test_arguments_stay(self):
        row = list(ROW)
        read_fabric(row)
        self.assertEqual(row, ROW)


if __name__ == "__main__":
    unittest.main()
