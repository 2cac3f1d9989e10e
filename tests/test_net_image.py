"""Promise 8.4."""

import unittest

from machines import made_circuit, made_contents, made_machine, made_net, made_roms
from stagecut.blast import blast
from stagecut.build import build
from stagecut.check import check
from stagecut.errors import BadImage, CutError
from stagecut.net_image import read_net, write_net
from stagecut.onestep import start

NET = ((0, 1), ((2, 4), (3, 5), (7, 9)), (3, 11), (10, 2, 0, 1, 4))
ROW = [2, 3, 5, 6, 23, 10, 2, 0, 1, 4, 3, 1, 4, 2, 2, 0]


class Writing(unittest.TestCase):
    def judge(self, net):
        row = write_net(net)
        self.assertIs(type(row), list)
        self.assertTrue(all(type(part) is int and 0 <= part < 256 for part in row))
        self.assertEqual(read_net(row), net)
        return row

    def test_small(self):
        self.assertEqual(self.judge(NET), ROW)
        self.assertEqual(self.judge(((),) * 4), [0, 0, 0])
        self.assertEqual(self.judge(((1,), (), (1,), ())), [1, 0, 0, 3])
        self.assertEqual(self.judge(((), ((0, 1),), (), (3,))), [0, 1, 1, 3, 1, 0])

    def test_numbers_of_one_two_and_three_bytes(self):
        for many, digits in ((127, [127]), (128, [128, 1]), (129, [129, 1]), (255, [255, 1]), (256, [128, 2]),
                             (16383, [255, 127]), (16384, [128, 128, 1]), (16385, [129, 128, 1])):
            net = ((), (), (), (1,) * many)
            self.assertEqual(self.judge(net), [0, 0, *digits] + [1] * many)
            # A literal of a latch and an and that are far away from the constant.
            net = ((0,) * many, ((0, 2 * many + 1),), tuple(2 * many for _ in range(many)), (2 * many + 2,))
            row = self.judge(net)
            self.assertEqual(row[:len(digits)], digits)

    def test_made_ones(self):
        for seed in range(150):
            self.judge(made_net(seed))
        for seed in range(30):
            circuit = made_circuit(seed)
            self.judge(blast(circuit, made_contents(seed, circuit)))
        plan = check(made_machine(3))
        self.assertGreater(max(self.judge(blast(build(plan), start(plan, made_roms(3, plan))[1]))), 127)


class Wrong(unittest.TestCase):
    def bad(self, row):
        kept = list(row)
        with self.assertRaises(BadImage):
            read_net(row)
        self.assertEqual(row, kept)

    def test_error(self):
        self.assertTrue(issubclass(BadImage, CutError))
        BadImage()

    def test_cut_off(self):
        for net in (NET, made_net(4), made_net(7), ((), (), (), (1,) * 300), ((),) * 4):
            row = write_net(net)
            for at in range(len(row)):
                self.bad(row[:at])

    def test_more_bytes(self):
        for net in (NET, made_net(4), ((),) * 4):
            for more in ([0], [1], [128], [0, 0], [255]):
                self.bad(write_net(net) + more)

    def test_more_bytes_than_a_number_needs(self):
        for at, number in enumerate(ROW):
            self.bad(ROW[:at] + [number + 128, 0] + ROW[at + 1:])
            self.bad(ROW[:at] + [number + 128, 128, 0] + ROW[at + 1:])
            self.bad(ROW[:at] + [number + 128] + ROW[at + 1:])

    def test_literals_of_nodes_that_are_not_ahead(self):
        # The numbers of the ands are own - 1 - literal, so at most own - 1.
        for at, own in ((10, 6), (11, 6), (12, 8), (13, 8), (14, 10), (15, 10)):
            read_net(ROW[:at] + [own - 1] + ROW[at + 1:])
            self.bad(ROW[:at] + [own] + ROW[at + 1:])
            self.bad(ROW[:at] + [127] + ROW[at + 1:])
        # Told literals are below 12, and next literals, twice.
        for at in range(5, 10):
            read_net(ROW[:at] + [11] + ROW[at + 1:])
            self.bad(ROW[:at] + [12] + ROW[at + 1:])
        for at in (3, 4):
            read_net(ROW[:at] + [23] + ROW[at + 1:])
            self.bad(ROW[:at] + [24] + ROW[at + 1:])
            self.bad(ROW[:at] + [25] + ROW[at + 1:])

    def test_first_values(self):
        net = read_net(ROW[:3] + [7, 22] + ROW[5:])
        self.assertEqual((net[0], net[2]), ((1, 0), (3, 11)))

    def test_numbers_of_parts(self):
        for at in range(3):
            for number in (0, 1, 4, 6, 7, 127):
                if number != ROW[at]:
                    self.bad(ROW[:at] + [number] + ROW[at + 1:])
            # Far more than the row has.
            self.bad(ROW[:at] + [255] * 9 + [1] + ROW[at + 1:])
            self.bad(ROW[:at] + [255] * 300 + [1] + ROW[at + 1:])

    def test_no_row(self):
        self.bad([])
        self.bad([0])
        self.bad([0, 0])
        self.bad([128])
        self.bad([255] * 20)

    def test_what_is_no_byte(self):
        for at in range(len(ROW)):
            for part in (-1, 256, ROW[at] + 256, ROW[at] - 256, ROW[at] + 128 * 256):
                self.bad(ROW[:at] + [part] + ROW[at + 1:])
                self.bad(ROW[:at] + [part, 0] + ROW[at + 1:])
        for part in (0, 256, 128 + 256, 128 - 256, 128 + 1024):
            self.bad([0, 0, part, 1] + [1] * 128)
        self.assertEqual(read_net([0, 0, 128, 1] + [1] * 128), ((), (), (), (1,) * 128))

    def test_one_row_for_one_net(self):
        """Whatever is read is written as the same row again."""
        for at in range(len(ROW)):
            for byte in range(256):
                row = ROW[:at] + [byte] + ROW[at + 1:]
                try:
                    net = read_net(row)
                except BadImage:
                    continue
                self.assertEqual(write_net(net), row)

    def test_arguments_stay(self):
        row = list(ROW)
        read_net(row)
        self.assertEqual(row, ROW)


if __name__ == "__main__":
    unittest.main()
