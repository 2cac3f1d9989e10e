"""Promises 10.4 and 10.5."""

import itertools
import random
import unittest

from proofs import birds, follows, is_slow_proof, satisfies
from stagecut.satisfy import satisfy
from stagecut.search import luby


def made_clauses(seed, many, number, longest=4):
    chance = random.Random(seed)
    return tuple(tuple(chance.choice((1, -1)) * chance.randint(1, many) for _ in range(chance.randint(1, longest)))
                 for _ in range(number))


class Satisfying(unittest.TestCase):
    def judge(self, many, clauses):
        """True if there are values; both answers are looked through."""
        found = satisfy(many, clauses)
        self.assertIs(type(found), tuple)
        values, proof = found
        if values is not None:
            self.assertIs(type(values), tuple)
            self.assertEqual((len(values), proof), (many, ()))
            self.assertTrue(all(type(value) is bool for value in values))
            self.assertTrue(satisfies(clauses, values))
            return True
        self.assertIs(type(proof), tuple)
        for clause in proof:
            self.assertIs(type(clause), tuple)
            self.assertTrue(all(type(literal) is int and 1 <= abs(literal) <= many for literal in clause))
        self.assertTrue(is_slow_proof(clauses, proof))
        return False

    def test_no_clauses(self):
        for many in (0, 1, 5):
            self.assertTrue(self.judge(many, ()))
        self.assertEqual(satisfy(0, ()), ((), ()))

    def test_the_empty_clause(self):
        self.assertFalse(self.judge(0, ((),)))
        self.assertFalse(self.judge(3, ((1, 2), (), (-1,))))
        self.assertFalse(self.judge(1, ((), ())))

    def test_one_literal(self):
        self.assertEqual(satisfy(2, ((1,), (-2,))), ((True, False), ()))
        self.assertFalse(self.judge(1, ((1,), (-1,))))
        self.assertFalse(self.judge(3, ((3,), (1, 2), (-3,))))
        self.assertFalse(self.judge(2, ((1,), (-1, 2), (-2,))))

    def test_a_literal_twice(self):
        self.assertEqual(satisfy(1, ((-1, -1),)), ((False,), ()))
        self.assertFalse(self.judge(1, ((1, 1), (-1, -1, -1))))
        self.assertFalse(self.judge(2, ((1, 2, 1), (1, -2, 1), (-1, 2, 2), (-2, -1, -2))))
        self.assertTrue(self.judge(2, ((1, 2, 1), (1, -2, 1), (-1, 2, 2))))

    def test_a_literal_with_its_negative(self):
        self.assertTrue(self.judge(1, ((1, -1),)))
        self.assertTrue(self.judge(2, ((1, -1, 2), (-2,), (-1, 2, 1))))
        self.assertFalse(self.judge(2, ((1, -1), (2, -2), (1, 2), (-1, 2), (1, -2), (-1, -2))))

    def test_all_clauses_of_some_variables(self):
        for many in range(1, 6):
            clauses = tuple(tuple(at + 1 if bit else -at - 1 for at, bit in enumerate(bits))
                            for bits in itertools.product((0, 1), repeat=many))
            self.assertFalse(self.judge(many, clauses))
            for at in range(len(clauses)):
                self.assertTrue(self.judge(many, clauses[:at] + clauses[at + 1:]))

    def test_made_ones(self):
        met = {True: 0, False: 0}
        for seed in range(600):
            many = 1 + seed % 8
            clauses = made_clauses(seed, many, seed % 37)
            found = self.judge(many, clauses)
            self.assertEqual(found, any(satisfies(clauses, values)
                                        for values in itertools.product((False, True), repeat=many)))
            met[found] += 1
        self.assertGreater(min(met.values()), 150)

    def test_chains(self):
        """Each variable of 39 holds if the one ahead of it does."""
        for many in (1, 2, 38, 39):
            chain = tuple((-at, at + 1) for at in range(1, many))
            self.assertEqual(satisfy(many, chain + ((1,),)), ((True,) * many, ()))
            self.assertFalse(self.judge(many, chain + ((1,), (-many,))))
            self.assertFalse(self.judge(many, ((-many,),) + chain[::-1] + ((1,),)))
            self.assertTrue(self.judge(many, chain + ((-many,),)))
            # Round in a ring, all are the same.
            ring = chain + ((-many, 1),)
            self.assertIn(satisfy(many, ring)[0], ((True,) * many, (False,) * many))
            everyone = tuple(range(1, many + 1))
            self.assertFalse(self.judge(many, ring + (everyone, tuple(-at for at in everyone))))

    def test_odd_chains(self):
        """Each variable of 39 is the other value of the one ahead of it, or a sum of two."""
        turned = tuple(clause for at in range(1, 39) for clause in ((at, at + 1), (-at, -at - 1)))
        self.assertTrue(self.judge(39, turned))
        self.assertFalse(self.judge(39, turned + ((1, -39), (-1, 39), (1, 39), (-1, -39))))
        self.assertFalse(self.judge(39, turned + ((1,), (-39,))))
        sums = []
        for at in range(1, 38):
            sums += [(-at, -at - 1, -at - 2), (at, at + 1, -at - 2), (at, -at - 1, at + 2), (-at, at + 1, at + 2)]
        self.assertTrue(self.judge(39, tuple(sums) + ((1, 2),)))
        # Three variables one behind the other are 1 1 0 in turn, or all 0.
        self.assertFalse(self.judge(39, tuple(sums) + ((1, 2), (-37, -38, 39), (37, 38), (37, 39), (38, 39), (-39, 37),
                                                       (-38, -37), (-37, -39), (-38, -39))))

    def test_birds_in_holes(self):
        for many in range(1, 7):
            self.assertFalse(self.judge(*birds(many + 1, many)))
            self.assertTrue(self.judge(*birds(many, many)))
            self.assertTrue(self.judge(*birds(many, many + 1)))

    def test_many_birds(self):
        many, clauses = birds(8, 7)
        values, proof = satisfy(many, clauses)
        self.assertIsNone(values)
        self.assertEqual(proof[-1], ())
        # What is learned is of use: without that, far more clauses would be needed.
        self.assertLess(len(proof), 20000)
        # Some of its many clauses.
        known = [frozenset(clause) for clause in clauses + proof]
        for at in range(0, len(proof), len(proof) // 12):
            self.assertTrue(follows(known[:len(clauses) + at], proof[at]))
        self.assertTrue(self.judge(*birds(12, 12)))

    def test_hard_ones(self):
        """Clauses of three literals, as many as make them hard."""
        met = set()
        for seed in range(12):
            chance = random.Random(seed)
            clauses = tuple(tuple(chance.choice((1, -1)) * at for at in chance.sample(range(1, 61), 3))
                            for _ in range(258))
            met.add(self.judge(60, clauses))
        self.assertEqual(met, {True, False})

    def test_variables_that_are_not_named(self):
        values, _ = satisfy(9, ((4, 7), (-7,)))
        self.assertEqual((len(values), values[3], values[6]), (9, True, False))
        self.assertFalse(self.judge(9, ((4,), (-4,))))

    def test_arguments_stay(self):
        clauses = [(3, 1), (-1, 2, 2), (-3, -2), (2, -3)]
        kept = list(clauses)
        satisfy(3, clauses)
        self.assertEqual(clauses, kept)

    def test_many_clauses(self):
        """More than are kept when some are dropped."""
        many, clauses = birds(9, 8)
        chance = random.Random(2)
        more = tuple(tuple(chance.choice((1, -1)) * at for at in chance.sample(range(73, 151), 3)) for _ in range(300))
        self.assertTrue(self.judge(150, clauses[1:] + more))


class Runs(unittest.TestCase):
    def test_luby(self):
        self.assertEqual([luby(at) for at in range(1, 18)], [1, 1, 2, 1, 1, 2, 4, 1, 1, 2, 1, 1, 2, 4, 8, 1, 1])


if __name__ == "__main__":
    unittest.main()
