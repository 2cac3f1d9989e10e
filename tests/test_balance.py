"""Promise 9.2."""

import itertools
import random
import unittest

from machines import made_circuit, made_contents, made_machine, made_net, made_roms
from stagecut.balance import balance
from stagecut.blast import blast
from stagecut.build import build
from stagecut.check import check
from stagecut.gates import cycle_of, is_net, run_net
from stagecut.levels import depth, levels
from stagecut.onestep import start
from stagecut.shrink import shrink


def states(net):
    """All states of the latches, or some by chance if they are many."""
    many = len(net[0])
    if many <= 6:
        return list(itertools.product((0, 1), repeat=many))
    chance = random.Random(many)
    return [tuple(chance.randint(0, 1) for _ in range(many)) for _ in range(30)]


def least_level(many):
    """The least k with 2^k at least a number."""
    level = 0
    while 2 ** level < many:
        level += 1
    return level


def row_of_ands(literals, latches, shape, first=None):
    """Ands over literals, one behind the other ("row"), by chance, or as they come with a number of ands ahead."""
    ahead = first or 1 + latches
    chance = random.Random(len(literals))
    todo = list(literals)
    ands = []
    while len(todo) > 1:
        if shape == "chance":
            chance.shuffle(todo)
        one, other = todo.pop(), todo.pop()
        ands.append((one, other))
        todo.append(2 * (ahead + len(ands) - 1))
    return ands, todo[0]


class Balancing(unittest.TestCase):
    def judge(self, net):
        """The flatter net, of which all holds that is promised."""
        self.assertTrue(is_net(net))
        found = balance(net)
        self.assertIs(is_net(found), True)
        self.assertEqual(found[0], net[0])
        self.assertEqual((len(found[2]), len(found[3])), (len(net[2]), len(net[3])))
        self.assertLessEqual(len(found[1]), len(net[1]))
        self.assertLessEqual(depth(found), depth(net))
        for state in states(net):
            self.assertEqual(cycle_of(found, state), cycle_of(net, state))
        return found

    def out_levels(self, net):
        found = self.judge(net)
        return [levels(found)[literal // 2] for literal in found[3]]

    def test_nothing(self):
        for net in (((),) * 4, ((), (), (), (0, 1)), ((0, 1), (), (4, 3), (2, 5, 1))):
            self.assertEqual(self.judge(net), net)
        self.assertEqual(self.judge(((), ((0, 1),), (), ())), ((),) * 4)

    def test_long_rows(self):
        for many in range(2, 40):
            literals = [2 * (1 + at) + at % 3 % 2 for at in range(many)]
            for shape in ("row", "chance"):
                ands, last = row_of_ands(literals, many, shape)
                same = tuple(2 * (1 + at) for at in range(many))
                net = ((0,) * many, tuple(ands), same, (last,))
                self.assertEqual(self.out_levels(net), [least_level(many)])
                # A next literal instead of a told one.
                found = self.judge(((0,) * many, tuple(ands), (last, *same[1:]), ()))
                self.assertEqual(depth(found), least_level(many))

    def test_a_literal_twice(self):
        for many in range(2, 20):
            literals = [2 * (1 + at) for at in range(many)] + [2 * (1 + at) for at in range(0, many, 2)]
            ands, last = row_of_ands(literals, many, "chance")
            net = ((0,) * many, tuple(ands), (2,) * many, (last,))
            self.assertEqual(self.out_levels(net), [least_level(many)])
            self.assertEqual(len(balance(net)[1]), many - 1)

    def test_a_literal_with_its_other_value(self):
        for many in range(2, 20):
            for at in (1, many // 2, many):
                literals = [2 * (1 + other) for other in range(many)] + [2 * at + 1]
                ands, last = row_of_ands(literals, many, "chance")
                net = ((0,) * many, tuple(ands), (2,) * many, (last, last ^ 1))
                self.assertEqual(self.judge(net), ((0,) * many, (), (2,) * many, (0, 1)))

    def test_with_the_constant(self):
        ands, last = row_of_ands([2, 4, 1, 6, 8, 1], 4, "row")
        self.assertEqual(self.out_levels(((0,) * 4, tuple(ands), (2,) * 4, (last,))), [2])
        ands, last = row_of_ands([2, 4, 0, 6, 8], 4, "row")
        self.assertEqual(self.judge(((0,) * 4, tuple(ands), (2,) * 4, (last,))), ((0,) * 4, (), (2,) * 4, (0,)))
        ands, last = row_of_ands([1, 1, 1], 0, "row")
        self.assertEqual(self.judge(((), tuple(ands), (), (last,))), ((), (), (), (1,)))

    def test_several_rows(self):
        """Each one as flat as it can be, also where one is told and next, twice, or turned round."""
        many = 9
        ands, one = row_of_ands([2 * (1 + at) for at in range(many)], many, "row")
        more, other = row_of_ands([2 * (1 + at) + 1 for at in range(5)], many, "row", 1 + many + len(ands))
        ands += more
        nexts = (one, other) + (2,) * (many - 2)
        self.assertEqual(self.out_levels(((0,) * many, tuple(ands), nexts, (one, other, one, one ^ 1))), [4, 3, 4, 4])

    def test_what_is_named_twice_stays(self):
        # The and of the first four is told, too, so it is one literal of the row behind it.
        ands, last = row_of_ands([10, 8, 6, 4, 2], 5, "row")
        net = ((0,) * 5, tuple(ands), (2,) * 5, (last, ands[-1][0], ands[-1][1]))
        self.judge(net)
        # Turned round inside.
        net = ((0,) * 4, ((2, 4), (11, 6), (12, 8)), (2,) * 4, (14,))
        self.assertEqual(self.out_levels(net), [2])

    def test_levels_of_what_comes_in(self):
        """What comes late is taken in last."""
        # A deep literal, turned round, and a row of latches behind it.
        net = ((0,) * 6, ((2, 4), (15, 6), (17, 8), (18, 10), (20, 12), (22, 3)), (2,) * 6, (24,))
        found = self.judge(net)
        self.assertEqual((depth(net), depth(found)), (6, 3))

    def test_made_ones(self):
        less = 0
        for seed in range(500):
            net = made_net(seed, latches=seed % 7, ands=5 + seed % 40)
            found = self.judge(net)
            less += depth(found) < depth(net)
            self.judge(shrink(net))
        self.assertGreater(less, 100)

    def test_ands_by_chance(self):
        """Nets of ands that mostly are not turned round."""
        chance = random.Random(3)
        for _ in range(150):
            latches = chance.randint(1, 6)
            ands = []
            for at in range(chance.randint(1, 40)):
                top = 1 + latches + at
                ands.append(tuple(2 * chance.randrange(max(0, top - 9), top) + (chance.random() < 0.1)
                                  for _ in range(2)))
            top = 2 * (1 + latches + len(ands))
            nexts = tuple(chance.randrange(top) for _ in range(latches))
            self.judge(((0,) * latches, tuple(ands), nexts, (top - 2, chance.randrange(top))))

    def test_circuits_and_pipelines(self):
        for seed in range(40):
            circuit = made_circuit(seed)
            self.judge(blast(circuit, made_contents(seed, circuit)))
        for seed in range(20):
            plan = check(made_machine(seed))
            net = blast(build(plan), start(plan, made_roms(seed, plan))[1])
            found = self.judge(net)
            self.assertEqual(run_net(found, 12), run_net(net, 12))

    def test_arguments_stay(self):
        net = made_net(9)
        kept = tuple(tuple(part) for part in net)
        balance(net)
        self.assertEqual(net, kept)


if __name__ == "__main__":
    unittest.main()
