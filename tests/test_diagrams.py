"""Promise 10.1."""

import itertools
import random
import unittest

from stagecut.diagrams import Diagrams
from stagecut.errors import CutError, TooMany

MANY = 20000


class Functions:
    """Nodes made together with the values that they should have at all tuples of values."""

    def __init__(self, many):
        self.many = many
        self.diagrams = Diagrams(MANY)
        self.tuples = list(itertools.product((0, 1), repeat=many))
        size = len(self.tuples)
        self.found = [(0, (0,) * size), (1, (1,) * size)]
        for at in range(many):
            self.found.append((self.diagrams.variable(at), tuple(row[at] for row in self.tuples)))

    def work(self, chance):
        """Makes one more node in one of the ways."""
        (one, ones), (other, others), (third, thirds) = (chance.choice(self.found) for _ in range(3))
        way = chance.choice(("pick", "no", "both", "differ"))
        if way == "pick":
            told = tuple(b if a else c for a, b, c in zip(ones, others, thirds))
            self.found.append((self.diagrams.pick(one, other, third), told))
        elif way == "no":
            self.found.append((self.diagrams.no(one), tuple(1 - a for a in ones)))
        elif way == "both":
            self.found.append((self.diagrams.both(one, other), tuple(a & b for a, b in zip(ones, others))))
        else:
            self.found.append((self.diagrams.differ(one, other), tuple(a ^ b for a, b in zip(ones, others))))


class Nodes(unittest.TestCase):
    def test_one_node_for_each_function(self):
        for seed in range(120):
            chance = random.Random(seed)
            made = Functions(seed % 6)
            for _ in range(60):
                made.work(chance)
            by_node = {}
            by_function = {}
            for node, told in made.found:
                self.assertEqual(by_node.setdefault(node, told), told)
                self.assertEqual(by_function.setdefault(told, node), node)

    def test_least_and_count(self):
        for seed in range(80):
            chance = random.Random(seed)
            made = Functions(seed % 6)
            for _ in range(40):
                made.work(chance)
            for node, told in made.found:
                for more in (0, 1, 3):
                    many = made.many + more
                    self.assertEqual(made.diagrams.count(node, many), sum(told) * 2 ** more)
                    if node != 0:
                        least = [row for row, worth in zip(made.tuples, told) if worth][0]
                        self.assertEqual(made.diagrams.least(node, many), least + (0,) * more)

    def test_made_in_other_ways(self):
        made = Diagrams(MANY)
        a, b, c = (made.variable(at) for at in range(3))
        self.assertEqual(made.variable(0), a)
        self.assertEqual(made.no(made.no(a)), a)
        self.assertEqual(made.both(a, b), made.both(b, a))
        self.assertEqual(made.both(a, b), made.pick(a, b, 0))
        self.assertEqual(made.no(made.both(a, b)), made.pick(a, made.no(b), 1))
        self.assertEqual(made.differ(a, b), made.pick(a, made.no(b), b))
        self.assertEqual(made.differ(made.differ(a, b), made.differ(b, c)), made.differ(c, a))
        self.assertEqual(made.both(a, made.no(a)), 0)
        self.assertEqual(made.pick(a, 1, made.no(a)), 1)
        self.assertEqual(made.pick(a, 1, 0), a)
        self.assertEqual(made.pick(a, 0, 1), made.no(a))
        self.assertEqual(made.pick(b, a, a), a)
        self.assertEqual(made.differ(a, a), 0)
        self.assertEqual(made.differ(a, 1), made.no(a))
        self.assertEqual(made.differ(0, a), a)
        self.assertEqual((made.no(0), made.no(1)), (1, 0))
        self.assertEqual(len({0, 1, a, b, c, made.no(a), made.both(a, b), made.differ(a, b)}), 8)

    def test_constants(self):
        made = Diagrams(2)
        self.assertEqual((made.least(1, 0), made.count(1, 0), made.count(0, 0)), ((), 1, 0))
        self.assertEqual((made.least(1, 3), made.count(1, 3), made.count(0, 3)), ((0, 0, 0), 8, 0))
        self.assertEqual((made.both(1, 0), made.differ(1, 0), made.pick(1, 0, 1), made.no(1)), (0, 1, 0, 0))

    def test_deep(self):
        """Functions over many variables, one after the other."""
        made = Diagrams(MANY)
        all_of = odd = 1
        for at in reversed(range(2000)):
            all_of = made.both(made.variable(at), all_of)
            odd = made.differ(made.variable(at), odd)
        self.assertEqual(made.least(all_of, 2000), (1,) * 2000)
        self.assertEqual(made.count(all_of, 2000), 1)
        self.assertEqual(made.count(odd, 2000), 2 ** 1999)
        self.assertEqual(made.no(made.no(odd)), odd)
        self.assertEqual(made.count(made.both(odd, all_of), 2001), 2)


class Limits(unittest.TestCase):
    def test_error(self):
        self.assertTrue(issubclass(TooMany, CutError))
        TooMany()

    def test_variables(self):
        for most in range(2, 12):
            made = Diagrams(most)
            found = [made.variable(at) for at in range(most - 2)]
            self.assertEqual(len(set(found)), most - 2)
            for at, node in enumerate(found):
                self.assertEqual(made.variable(at), node)
            with self.assertRaises(TooMany):
                made.variable(most - 2)
            with self.assertRaises(TooMany):
                made.variable(100)

    def test_no_more_nodes_than_given(self):
        for most in range(2, 40):
            for seed in range(10):
                chance = random.Random(seed)
                made = Diagrams(most)
                nodes = [0, 1]
                with self.assertRaises(TooMany):
                    for at in range(10000):
                        nodes.append(made.variable(at % 8))
                        nodes.append(made.differ(chance.choice(nodes), chance.choice(nodes)))
                        nodes.append(made.pick(*(chance.choice(nodes) for _ in range(3))))
                        self.assertLessEqual(len(set(nodes)), most)

    def test_what_is_there_stays(self):
        made = Diagrams(5)
        a, b = made.variable(0), made.variable(1)
        both = made.both(a, b)
        with self.assertRaises(TooMany):
            made.no(both)
        self.assertEqual((made.both(b, a), made.variable(0), made.count(both, 2)), (both, a, 1))

    def test_the_other_value_is_a_node_too(self):
        made = Diagrams(3)
        a = made.variable(0)
        with self.assertRaises(TooMany):
            made.no(a)
        made = Diagrams(4)
        a = made.variable(0)
        self.assertEqual(len({0, 1, a, made.no(a)}), 4)


if __name__ == "__main__":
    unittest.main()
