"""Promise 8.3."""

import unittest

from machines import made_circuit, made_contents, made_machine, made_net, made_roms
from stagecut.blast import blast
from stagecut.build import build
from stagecut.check import check
from stagecut.events import run_events
from stagecut.gates import cycle_of, run_net
from stagecut.onestep import start


def all_values(net, state):
    """The values of all nodes."""
    told, _ = cycle_of((*net[:3], tuple(2 * node for node in range(1 + len(net[0]) + len(net[1])))), state)
    return told


def counted(net, cycles):
    """How many nodes turn behind the cycles, and how many ands name a node that turned, cycle by cycle."""
    state = net[0]
    turns = 0
    named = 0
    for _ in range(cycles):
        worths = all_values(net, state)
        state = cycle_of(net, state)[1]
        turned = [one != other for one, other in zip(worths, all_values(net, state))]
        turns += sum(turned)
        named += sum(turned[one >> 1] or turned[other >> 1] for one, other in net[1])
    return turns, named


class Events(unittest.TestCase):
    def judge(self, net, cycles):
        found = run_events(net, cycles)
        self.assertEqual(found, (run_net(net, cycles), *counted(net, cycles)))
        return found

    def test_no_cycles(self):
        for seed in range(20):
            self.assertEqual(self.judge(made_net(seed), 0), ((), 0, 0))
        self.assertEqual(run_events(((),) * 4, 3), (((), (), ()), 0, 0))

    def test_behind_the_last_cycle(self):
        # A latch that turns behind each cycle, also behind the last one, with an and of it.
        net = ((0, 1), ((2, 4),), (3, 4), (6,))
        self.assertEqual(self.judge(net, 1), (((0,),), 2, 1))
        self.assertEqual(self.judge(net, 2), (((0,), (1,)), 4, 2))

    def test_nothing_turns(self):
        net = ((0, 1), ((2, 4), (3, 7)), (2, 4), (6, 8))
        self.assertEqual(self.judge(net, 5), (((0, 1),) * 5, 0, 0))

    def test_only_what_changes(self):
        # Of a long row of ands behind a 0 that stays, the first one alone is worked out.
        ands = [(2, 4)] + [(6 + 2 * at, 3) for at in range(20)]
        net = ((0, 0), tuple(ands), (3, 4), (6 + 2 * 20,))
        told, turns, work = self.judge(net, 4)
        self.assertEqual(turns, 4)
        self.assertEqual(work, 4 * 21)
        ands = [(2, 4)] + [(6 + 2 * at, 5) for at in range(20)]
        net = ((0, 0), tuple(ands), (3, 4), (6 + 2 * 20,))
        self.assertEqual(self.judge(net, 4)[1:], (4, 4))

    def test_both_nodes_turn(self):
        """An and both of whose nodes turn is worked out once."""
        net = ((0, 1), ((2, 4), (2, 2), (2, 5), (8, 10)), (3, 5), (6, 12))
        found = self.judge(net, 3)
        # Both latches, the second and the third and, and the fourth one turn.
        self.assertEqual(found[1:], (3 * 5, 3 * 4))

    def test_made_ones(self):
        for seed in range(200):
            self.judge(made_net(seed), seed % 12)

    def test_circuits(self):
        for seed in range(40):
            circuit = made_circuit(seed)
            self.judge(blast(circuit, made_contents(seed, circuit)), 6)

    def test_fewer_than_all(self):
        """Of the net of a pipeline, most is not worked out anew."""
        plan = check(made_machine(11, stages=5))
        net = blast(build(plan), start(plan, made_roms(11, plan))[1])
        _, _, work = self.judge(net, 20)
        self.assertLess(work, 20 * len(net[1]) // 2)


if __name__ == "__main__":
    unittest.main()
