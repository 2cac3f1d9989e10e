"""Promise 9.1."""

import itertools
import random
import unittest

from machines import made_circuit, made_contents, made_machine, made_net, made_roms
from stagecut.blast import blast
from stagecut.build import build
from stagecut.check import check
from stagecut.fold import fold
from stagecut.gates import is_net, run_net
from stagecut.onestep import start
from stagecut.shrink import shrink


def with_constants(net, still):
    """What stands in the place of each node if the latches with these numbers have their first values."""
    places = [0] + [first if at in still else 2 * (1 + at) for at, first in enumerate(net[0])]
    for at, sides in enumerate(net[1]):
        one, other = sorted(places[side // 2] ^ side % 2 for side in sides)
        if one == 0 or one ^ 1 == other:
            places.append(0)
        elif one == 1 or one == other:
            places.append(other)
        else:
            places.append(2 * (1 + len(net[0]) + at))
    return places


def stands_still(net, still):
    places = with_constants(net, still)
    return all(places[net[2][at] // 2] ^ net[2][at] % 2 == net[0][at] for at in still)


def greatest_still(net):
    """The greatest set of latches that stand still together."""
    still = set(range(len(net[0])))
    while not stands_still(net, still):
        places = with_constants(net, still)
        still = {at for at in still if places[net[2][at] // 2] ^ net[2][at] % 2 == net[0][at]}
    return still


def hung_on(net):
    """The nodes on which something told hangs."""
    seen = set()
    todo = [literal // 2 for literal in net[3]]
    while todo:
        node = todo.pop()
        if node not in seen:
            seen.add(node)
            if node > len(net[0]):
                todo.extend(side // 2 for side in net[1][node - 1 - len(net[0])])
            elif node > 0:
                todo.append(net[2][node - 1] // 2)
    return seen


class Shrinking(unittest.TestCase):
    def judge(self, net, cycles=25):
        """The smaller net, of which all holds that is promised."""
        self.assertTrue(is_net(net))
        found = shrink(net)
        self.assertIs(is_net(found), True)
        firsts, ands, nexts, outs = found
        self.assertEqual(run_net(found, cycles), run_net(net, cycles))
        self.assertLessEqual(len(firsts), len(net[0]))
        self.assertLessEqual(len(ands), len(net[1]))
        for one, other in ands:
            self.assertGreater(min(one, other), 1)
            self.assertNotEqual(one // 2, other // 2)
        self.assertEqual(len({tuple(sorted(pair)) for pair in ands}), len(ands))
        self.assertEqual(greatest_still(found), set())
        if len(firsts) < 6:
            for many in range(1, len(firsts) + 1):
                for still in itertools.combinations(range(len(firsts)), many):
                    self.assertFalse(stands_still(found, still))
        self.assertEqual(len(set(zip(firsts, nexts))), len(firsts))
        self.assertEqual(hung_on(found) - {0}, set(range(1, 1 + len(firsts) + len(ands))))
        return found

    def sizes(self, net):
        found = self.judge(net)
        return len(found[0]), len(found[1])

    def test_nothing(self):
        self.assertEqual(self.judge(((),) * 4), ((),) * 4)
        self.assertEqual(self.judge(((), (), (), (1, 0, 1))), ((), (), (), (1, 0, 1)))
        self.assertEqual(self.judge(((0, 1), ((2, 4),), (3, 6), ())), ((),) * 4)

    def test_without_latches_or_ands(self):
        self.assertEqual(self.judge(((), ((1, 1), (2, 0), (3, 5)), (), (2, 6, 7, 4))), ((), (), (), (1, 0, 1, 0)))
        self.assertEqual(self.judge(((0,), (), (3,), (2, 3))), ((0,), (), (3,), (2, 3)))

    def test_ands_of_the_constant(self):
        # Of 0, of 1, and each way round.
        for pair, told in (((2, 0), 0), ((0, 2), 0), ((2, 1), 2), ((1, 3), 3), ((1, 1), 1), ((0, 1), 0)):
            found = self.judge(((0,), (pair,), (3,), (4, 5)))
            self.assertEqual(found, ((0,), (), (3,), (told, told ^ 1)) if told > 1 else ((), (), (), (told, told ^ 1)))

    def test_ands_of_one_node_twice(self):
        for pair, told in (((2, 2), 2), ((3, 3), 3), ((2, 3), 0), ((3, 2), 0)):
            found = self.judge(((0,), (pair,), (3,), (4, 2)))
            self.assertEqual(found, ((0,), (), (3,), (told, 2)))

    def test_ands_that_are_there_twice(self):
        ands = ((2, 4), (4, 2), (2, 4), (2, 5), (5, 2), (6, 12), (8, 14))
        found = self.judge(((0, 1), ands, (3, 18), (6, 9, 10, 18)))
        self.assertEqual(len(found[1]), 3)
        # Only behind others that are there twice.
        ands = ((2, 4), (4, 2), (6, 3), (8, 3), (7, 5), (9, 5))
        found = self.judge(((0, 1), ands, (3, 14), (14, 16)))
        self.assertEqual(found[3][0], found[3][1])

    def test_latches_that_stand_still_alone(self):
        self.assertEqual(self.judge(((0, 1), (), (2, 4), (2, 4))), ((), (), (), (0, 1)))
        self.assertEqual(self.judge(((0, 1), (), (0, 1), (2, 4, 5))), ((), (), (), (0, 1, 0)))
        self.assertEqual(self.sizes(((0, 1), (), (1, 0), (2, 4))), (2, 0))
        # With itself in an and.
        self.assertEqual(self.sizes(((0, 0), ((2, 4),), (6, 5), (2, 4))), (1, 0))

    def test_latches_that_stand_still_only_together(self):
        self.assertEqual(self.judge(((0, 0, 0), (), (4, 6, 2), (2, 4, 6))), ((), (), (), (0, 0, 0)))
        self.assertEqual(self.judge(((0, 1, 0), (), (5, 7, 2), (2, 4, 6))), ((), (), (), (0, 1, 0)))
        # One of them turns, so none stands still.
        self.assertEqual(self.sizes(((0, 0, 1), (), (4, 6, 2), (2, 4, 6))), (3, 0))
        # By way of ands with a latch that turns.
        net = ((0, 0, 0), ((4, 6), (2, 6)), (8, 10, 7), (2, 4, 6))
        self.assertEqual(self.sizes(net), (1, 0))
        # The value behind an and of a 1 with something that turns is not still.
        self.assertEqual(self.sizes(((1, 0), ((2, 4),), (2, 5), (6, 2))), (1, 0))

    def test_latches_alike(self):
        # One first value and one next literal.
        net = ((0, 0, 1, 1), (), (4, 4, 6, 6), (2, 4))
        self.assertEqual(self.sizes(((0, 0, 0), (), (7, 7, 5), (2, 4, 6))), (1, 0))
        self.assertEqual(self.sizes(((0, 1), (), (3, 3), (2, 4))), (2, 0))
        self.assertEqual(self.sizes(net), (0, 0))

    def test_latches_alike_only_behind_other_changes(self):
        # Alike if others are, in a long row.
        many = 6
        nexts = (3, 3) + tuple(2 * at for at in range(1, 2 * many - 1))
        found = self.judge(((0,) * 2 * many, (), nexts, tuple(2 * at for at in range(1, 2 * many + 1))))
        self.assertEqual(len(found[0]), many)
        # Alike behind ands that are made simpler.
        net = ((0, 0, 0), ((4, 1), (7, 7), (2, 8)), (9, 3, 11), (2, 4, 6))
        self.judge(net)
        # Alike only because they are taken to be alike from the beginning: each hangs on itself.
        net = ((0, 0, 0), ((2, 6), (3, 7), (4, 6), (5, 7)), (9, 13, 7), (2, 4, 6))
        self.judge(net)

    def test_still_behind_latches_that_are_alike(self):
        # The and of a latch and of the other value of one that is alike is 0, so a third one stands still.
        net = ((0, 0, 0), ((2, 5),), (3, 5, 8), (2, 4, 6))
        self.assertEqual(self.sizes(net), (1, 0))

    def test_what_nothing_told_hangs_on(self):
        net = ((0, 0, 1), ((2, 4), (4, 6), (2, 7)), (3, 11, 12), (2,))
        self.assertEqual(self.judge(net), ((0,), (), (3,), (2,)))
        # By way of next literals.
        net = ((0, 1, 1), ((2, 4), (4, 7), (2, 6)), (3, 9, 11), (4,))
        self.assertEqual(self.sizes(net), (2, 1))

    def test_told_twice_and_turned(self):
        found = self.judge(((0,), (), (3,), (2, 2, 3, 0, 1)))
        self.assertEqual(found, ((0,), (), (3,), (2, 2, 3, 0, 1)))

    def test_made_ones(self):
        met = set()
        for seed in range(600):
            net = made_net(seed, latches=seed % 7, ands=5 + seed % 30)
            found = self.judge(net)
            met.add((len(found[0]) > 0, len(found[1]) > 0))
            again = self.judge(found)
            self.assertEqual([len(part) for part in again], [len(part) for part in found])
        self.assertEqual(len(met), 3)

    def test_rows_of_latches(self):
        """Many latches that mostly only have the values of others, so that much is still or alike."""
        chance = random.Random(4)
        for _ in range(200):
            many = chance.randint(1, 9)
            nexts = tuple(chance.randrange(2 * (1 + many)) for _ in range(many))
            firsts = tuple(chance.randint(0, 1) for _ in range(many))
            self.judge((firsts, (), nexts, tuple(2 * (1 + at) for at in range(many))))

    def test_circuits_and_pipelines(self):
        for seed in range(60):
            circuit = made_circuit(seed)
            self.judge(blast(circuit, made_contents(seed, circuit)), 8)
        for seed in range(30):
            plan = check(made_machine(seed))
            net = blast(fold(build(plan)), start(plan, made_roms(seed, plan))[1])
            found = self.judge(net, 15)
            # The words of the roms stand still.
            self.assertTrue(len(found[0]) < len(net[0]) or not plan[2])

    def test_arguments_stay(self):
        net = made_net(9)
        kept = tuple(tuple(part) for part in net)
        shrink(net)
        self.assertEqual(net, kept)


if __name__ == "__main__":
    unittest.main()
