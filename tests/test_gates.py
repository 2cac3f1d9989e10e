"""Promise 8.1."""

import random
import unittest

from machines import made_net
from stagecut.gates import cycle_of, is_net, run_net

# Two latches, the second one turning with the first one; three ands.
NET = ((0, 1), ((2, 4), (3, 5), (7, 9)), (3, 11), (10, 2, 0, 1, 4))


def slow_cycle(net, state):
    """What a net tells in a cycle and the state behind it, each literal looked up anew."""
    firsts, ands, nexts, outs = net

    def value(literal):
        node, turned = divmod(literal, 2)
        if node == 0:
            worth = 0
        elif node <= len(firsts):
            worth = state[node - 1]
        else:
            worth = int(all(value(side) == 1 for side in ands[node - 1 - len(firsts)]))
        return 1 - worth if turned else worth

    return tuple(value(literal) for literal in outs), tuple(value(literal) for literal in nexts)


class Nets(unittest.TestCase):
    def test_nets(self):
        for net in (NET, ((),) * 4, ((0,), (), (0,), ()), ((1,), (), (3,), (3, 2, 1)), ((), ((0, 1),), (), (2, 3)),
                    ((), ((1, 1), (3, 3), (2, 5)), (), (7,)), ((0, 0), (), (5, 5), ())):
            self.assertIs(is_net(net), True, net)

    def test_one_beyond(self):
        for net in (
            ((2, 1), *NET[1:]), ((-1, 1), *NET[1:]), ((0, 1, 0), *NET[1:]), ((0,), *NET[1:]),
            (NET[0], ((6, 4), (3, 5), (7, 9)), *NET[2:]), (NET[0], ((2, 7), (3, 5), (7, 9)), *NET[2:]),
            (NET[0], ((2, 4), (3, 8), (7, 9)), *NET[2:]), (NET[0], ((2, 4), (3, 5), (7, 10)), *NET[2:]),
            (NET[0], ((2, 4), (-1, 5), (7, 9)), *NET[2:]), (NET[0], ((2, 4), (3, 5), (7, 11)), *NET[2:]),
            (*NET[:2], (3, 12), NET[3]), (*NET[:2], (-1, 11), NET[3]), (*NET[:2], (3,), NET[3]),
            (*NET[:2], (3, 11, 1), NET[3]), (*NET[:2], (), NET[3]), (*NET[:3], (12,)), (*NET[:3], (-1,)),
            ((), (), (), (2,)), ((), ((2, 0),), (), ()), ((), ((0, 2),), (), ()), ((0,), (), (4,), ()),
        ):
            self.assertIs(is_net(net), False, net)
        for literal in (11, 0):
            self.assertIs(is_net((*NET[:3], (literal,))), True)

    def test_things_that_are_no_nets(self):
        for thing in (None, True, False, 0, "net", (), ((),), ((),) * 3, ((),) * 5, NET[:3], (*NET, ()), "nets",
                      (None,) * 4, (0, 0, 0, 0), ((), (), (), None), (None, (), (), ()), ((), "", (), ()),
                      ((), (), (), "a"), list(NET)):
            self.assertIs(is_net(thing), False, thing)

    def test_parts_of_another_kind(self):
        for thing in (True, False, None, "0", "", (), (0,), ((0, 0),)):
            self.assertIs(is_net(((thing, 1), *NET[1:])), False, thing)
            self.assertIs(is_net((NET[0], (thing, (3, 5), (7, 9)), *NET[2:])), False, thing)
            self.assertIs(is_net((NET[0], ((2, thing), (3, 5), (7, 9)), *NET[2:])), False, thing)
            self.assertIs(is_net((NET[0], ((thing, 4), (3, 5), (7, 9)), *NET[2:])), False, thing)
            self.assertIs(is_net((*NET[:2], (3, thing), NET[3])), False, thing)
            self.assertIs(is_net((*NET[:3], (thing,))), False, thing)
        for pair in ((2,), (2, 4, 2), (), [2, 4], ((2, 4),), "24"):
            self.assertIs(is_net((NET[0], (pair, (3, 5), (7, 9)), *NET[2:])), False, pair)
        for thing in ([0, 1], None, "01", 0):
            self.assertIs(is_net((thing, *NET[1:])), False, thing)

    def test_made_ones(self):
        for seed in range(100):
            net = made_net(seed)
            self.assertIs(is_net(net), True)
            for at, part in enumerate(net[1]):
                own = 2 * (1 + len(net[0]) + at)
                for other in (own, own + 1):
                    self.assertIs(is_net((net[0], net[1][:at] + ((part[0], other),) + net[1][at + 1:], *net[2:])), False)


class Running(unittest.TestCase):
    def test_small(self):
        self.assertEqual(run_net(NET, 0), ())
        self.assertEqual(run_net(NET, 4), ((1, 0, 0, 1, 1), (1, 1, 0, 1, 0), (0, 0, 0, 1, 0), (0, 1, 0, 1, 1)))
        self.assertEqual(run_net(((),) * 4, 2), ((), ()))
        self.assertEqual(cycle_of(NET, (1, 1)), ((0, 1, 0, 1, 1), (0, 1)))
        self.assertEqual(cycle_of(((), ((1, 1), (0, 3)), (), (2, 3, 4)), ()), ((1, 0, 0), ()))

    def test_from_any_state(self):
        chance = random.Random(5)
        for seed in range(100):
            net = made_net(seed, ands=14)
            for _ in range(6):
                state = tuple(chance.randint(0, 1) for _ in net[0])
                self.assertEqual(cycle_of(net, state), slow_cycle(net, state))

    def test_cycles(self):
        for seed in range(100):
            net = made_net(seed, ands=14)
            state = net[0]
            told = []
            for _ in range(6):
                row, state = slow_cycle(net, state)
                told.append(row)
            self.assertEqual(run_net(net, 6), tuple(told))
            self.assertTrue(all(type(bit) is int for row in told for bit in row))


if __name__ == "__main__":
    unittest.main()
