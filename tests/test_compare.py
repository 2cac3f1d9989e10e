"""Promise 10.2."""

import itertools
import random
import unittest

from machines import made_circuit, made_contents, made_net
from stagecut.balance import balance
from stagecut.blast import blast
from stagecut.compare import difference
from stagecut.errors import TooMany
from stagecut.gates import cycle_of, is_net

MANY = 50000


def slow_difference(one, other):
    """The first next or told literal that differs for some state, and the least such state."""
    found = None
    for state in itertools.product((0, 1), repeat=len(one[0])):
        told, nexts = cycle_of(one, state)
        other_told, other_nexts = cycle_of(other, state)
        for at, (bit, other_bit) in enumerate(zip(nexts + told, other_nexts + other_told)):
            if bit != other_bit and (found is None or at < found[0]):
                found = (at, state)
    return found


def laid_out_otherwise(net, chance):
    """A net that does the same, with ands of ands of both sides, or of the other values turned round again."""
    firsts, ands, nexts, outs = net
    places = [2 * at for at in range(1 + len(firsts))]
    found = []

    def both(one, other):
        found.append((one, other))
        return 2 * (len(firsts) + len(found))

    for sides in ands:
        one, other = (places[side // 2] ^ side % 2 for side in sides)
        way = chance.randrange(4)
        if way == 0:
            places.append(both(other, one))
        elif way == 1:
            places.append(both(both(one, one), other))
        elif way == 2:
            places.append(both(one, both(other, one)))
        else:
            # One, but not where one and not the other.
            places.append(both(one, both(one, other ^ 1) ^ 1))
    turned = [tuple(places[literal // 2] ^ literal % 2 for literal in part) for part in (nexts, outs)]
    return (firsts, tuple(found), *turned)


class Comparing(unittest.TestCase):
    def judge(self, one, other):
        self.assertTrue(is_net(one) and is_net(other))
        found = difference(one, other, MANY)
        self.assertEqual(found, slow_difference(one, other))
        return found

    def test_alike(self):
        for seed in range(200):
            net = made_net(seed, latches=seed % 7)
            other = laid_out_otherwise(net, random.Random(seed))
            self.assertIsNone(self.judge(net, other))
            self.assertIsNone(self.judge(other, net))
            self.assertIsNone(difference(net, balance(net), MANY))

    def test_first_values_do_not_matter(self):
        self.assertIsNone(self.judge(((0, 1), (), (2, 4), (2,)), ((1, 0), (), (2, 4), (2,))))

    def test_nothing(self):
        self.assertIsNone(self.judge(((),) * 4, ((),) * 4))
        self.assertIsNone(self.judge(((), (), (), (0, 1)), ((), ((0, 1),), (), (2, 3))))
        self.assertEqual(self.judge(((), (), (), (0, 1)), ((), (), (), (0, 0))), (1, ()))

    def test_in_one_state_alone(self):
        for many in range(1, 8):
            for state in ((0,) * many, (1,) * many, tuple(at % 2 for at in range(many))):
                literal = 2 if state[0] else 3
                ands = []
                for at in range(1, many):
                    ands.append((literal, 2 * (1 + at) + 1 - state[at]))
                    literal = 2 * (many + len(ands))
                same = tuple(2 * (1 + at) for at in range(many))
                one = ((0,) * many, tuple(ands), same, (2, literal))
                other = ((0,) * many, (), same, (2, 0))
                self.assertEqual(self.judge(one, other), (many + 1, state))

    def test_nexts_come_ahead_of_outs(self):
        one = ((0, 0), ((2, 4),), (2, 6), (6, 2))
        self.assertEqual(self.judge(one, (*one[:2], (2, 4), (2, 6))), (1, (0, 1)))
        self.assertEqual(self.judge(one, (*one[:2], (2, 6), (6, 4))), (3, (0, 1)))
        self.assertEqual(self.judge(one, (*one[:2], (3, 6), (6, 4))), (0, (0, 0)))
        self.assertEqual(self.judge(one, (*one[:2], (2, 7), (7, 3))), (1, (0, 0)))

    def test_the_least_state(self):
        # The last latch matters most for where one meets them: the least state is by their order all the same.
        one = ((0,) * 4, ((8, 6), (10, 4), (9, 2), (13, 15)), (2, 4, 6, 8), (17,))
        other = ((0,) * 4, (), (2, 4, 6, 8), (0,))
        self.assertEqual(self.judge(one, other), (4, (0, 1, 1, 1)))

    def test_other_ones(self):
        met = {"next": 0, "told": 0, None: 0}
        for seed in range(500):
            chance = random.Random(seed)
            net = made_net(seed, latches=1 + seed % 6, ands=30)
            ands = list(net[1])
            at = chance.randrange(len(ands))
            ands[at] = (ands[at][0] ^ 1, ands[at][1])
            found = self.judge(net, laid_out_otherwise((net[0], tuple(ands), *net[2:]), chance))
            met[None if found is None else "next" if found[0] < len(net[0]) else "told"] += 1
        self.assertGreater(min(met.values()), 15)

    def test_words(self):
        """Circuits that say the same in other words."""
        rows = (("reg", 0), ("reg", 1), ("op", "+", 0, 1), ("op", "-", 2, 1), ("op", "<", 0, 1), ("not", 1),
                ("lit", 1, 16), ("op", "+", 0, 5), ("op", "+", 7, 6), ("op", "-", 0, 1))
        nets = [blast((((16, 0), (16, 0)), (), rows, (2, 1), (), (told,)), ()) for told in (3, 0, 8, 9, 4)]
        self.assertIsNone(difference(nets[0], nets[1], MANY))
        self.assertIsNone(difference(nets[2], nets[3], MANY))
        # The sum and the difference of the words are other ones first at the low bit but one: 0 and 1.
        at, state = difference(nets[0], nets[3], MANY)
        self.assertEqual((at, state), (32, (0,) * 16 + (1,) + (0,) * 15))

    def test_circuits(self):
        for seed in range(30):
            circuit = made_circuit(seed, rows=8)
            net = blast(circuit, made_contents(seed, circuit))
            try:
                self.assertIsNone(difference(net, balance(net), MANY))
            except TooMany:
                self.assertIn("*", [row[1] for row in circuit[2] if row[0] == "op"])

    def test_arguments_stay(self):
        net = made_net(7)
        kept = tuple(tuple(part) for part in net)
        difference(net, net, MANY)
        self.assertEqual(net, kept)


class Limits(unittest.TestCase):
    def test_few_nodes(self):
        one = ((0, 0), ((2, 4),), (2, 4), (6,))
        other = ((0, 0), ((4, 2), (6, 2)), (2, 4), (8,))
        for most in range(2, 5):
            with self.assertRaises(TooMany):
                difference(one, other, most)
        self.assertIsNone(difference(one, other, 20))

    def test_products(self):
        """The bits of products of large words need more nodes than this."""
        rows = (("reg", 0), ("reg", 1), ("op", "*", 0, 1), ("op", "*", 1, 0))
        nets = [blast((((16, 0), (16, 0)), (), rows, (0, 1), (), (told,)), ()) for told in (2, 3)]
        with self.assertRaises(TooMany):
            difference(nets[0], nets[1], 2000)


if __name__ == "__main__":
    unittest.main()
