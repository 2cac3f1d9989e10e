"""Promise 9.3."""

import unittest

from machines import made_circuit, made_contents, made_net
from stagecut.blast import blast
from stagecut.levels import depth, level_counts, levels, longest

# Of two latches: ands of the levels 1, 2, 3, 1 and 4.
NET = ((0, 1), ((2, 4), (7, 2), (9, 9), (5, 3), (6, 11)), (8, 12), (7, 10))


def slow_level(net, node):
    if node <= len(net[0]):
        return 0
    return 1 + max(slow_level(net, side // 2) for side in net[1][node - 1 - len(net[0])])


class Levels(unittest.TestCase):
    def judge(self, net):
        nodes = 1 + len(net[0]) + len(net[1])
        found = levels(net)
        self.assertIs(type(found), list)
        self.assertEqual(found, [slow_level(net, node) for node in range(nodes)])
        ends = [literal // 2 for literal in net[2] + net[3]]
        self.assertEqual(depth(net), max([found[node] for node in ends], default=0))
        self.assertEqual(level_counts(net), tuple(found.count(level) for level in range(1, max(found) + 1)))
        self.judge_longest(net, found, ends)

    def judge_longest(self, net, found, ends):
        path = longest(net)
        self.assertIs(type(path), tuple)
        if not ends:
            self.assertEqual(path, ())
            return
        self.assertEqual([found[node] for node in path], list(range(depth(net) + 1)))
        self.assertIn(path[-1], ends)
        for node, behind in zip(path, path[1:]):
            self.assertIn(node, [side // 2 for side in net[1][behind - 1 - len(net[0])]])

    def test_small(self):
        self.judge(NET)
        self.assertEqual(levels(NET), [0, 0, 0, 1, 2, 3, 1, 4])
        self.assertEqual(depth(NET), 3)
        self.assertEqual(level_counts(NET), (2, 1, 1, 1))
        self.assertEqual(longest(NET)[1:], (3, 4, 5))

    def test_no_nexts_and_outs(self):
        for net in (((),) * 4, ((), ((0, 1), (2, 2)), (), ())):
            self.judge(net)
            self.assertEqual((depth(net), longest(net)), (0, ()))
        self.assertEqual(level_counts(((), ((0, 1), (2, 2)), (), ())), (1, 1))
        self.assertEqual((levels(((),) * 4), level_counts(((),) * 4)), ([0], ()))

    def test_of_level_0(self):
        for net, nodes in ((((), (), (), (1,)), (0,)), (((0,), (), (2,), ()), (1,)), (((0,), ((2, 2),), (3,), ()), (1,))):
            self.judge(net)
            self.assertEqual((depth(net), longest(net)), (0, nodes))

    def test_only_nexts_or_outs(self):
        self.judge(((0,), ((2, 2), (4, 4)), (6,), ()))
        self.judge(((), ((1, 1), (2, 3), (5, 2)), (), (7, 4)))
        self.assertEqual(depth(((), ((1, 1), (2, 3), (5, 2)), (), (7, 4))), 3)

    def test_what_is_returned_is_new(self):
        levels(NET).clear()
        self.assertEqual(levels(NET), [0, 0, 0, 1, 2, 3, 1, 4])

    def test_made_ones(self):
        for seed in range(150):
            self.judge(made_net(seed, ands=12))
        for seed in range(15):
            circuit = made_circuit(seed, rows=6)
            net = blast(circuit, made_contents(seed, circuit))
            if len(net[1]) < 60:
                self.judge(net)


if __name__ == "__main__":
    unittest.main()
