"""Promises 10.4 and 10.5: proofs looked through, values, and proofs of which nothing can be left out."""

import random
import unittest

from proofs import birds, follows, is_slow_proof, satisfies
from stagecut.proofs import are_values, is_proof, trimmed
from stagecut.satisfy import satisfy
from test_satisfy import made_clauses

SQUARE = ((1, 2), (1, -2), (-1, 2), (-1, -2))


class Judging(unittest.TestCase):
    def judge(self, clauses, proof, expected):
        self.assertIs(is_proof(clauses, proof), expected)
        self.assertEqual(is_slow_proof(clauses, proof), expected)

    def test_small(self):
        self.judge(SQUARE, ((1,), ()), True)
        self.judge(SQUARE, ((-2,), ()), True)
        self.judge(SQUARE, ((2,), (-2,), (1, 2, 3), ()), True)
        self.judge(SQUARE, ((3,), ()), False)
        self.judge(SQUARE, ((3, 1), ()), False)
        self.judge(((1,), (-1,)), ((),), True)
        self.judge(((1,), (2,)), ((),), False)

    def test_the_last_one_is_empty(self):
        self.judge(SQUARE, (), False)
        self.judge(SQUARE, ((1,),), False)
        self.judge(SQUARE, ((1,), (), (1,)), False)
        self.judge(SQUARE, ((1,), (), ()), True)
        self.judge(SQUARE, ((1,), (), (7,), ()), True)

    def test_no_clauses(self):
        self.judge((), (), False)
        self.judge((), ((),), False)
        self.judge((), ((1, -1), ()), False)
        self.judge((), ((1, -1),), False)

    def test_the_empty_clause(self):
        self.judge(((),), (), False)
        self.judge(((),), ((),), True)
        self.judge(((1, 2), ()), ((5,), (-5, 6), ()), True)

    def test_a_literal_together_with_its_negative(self):
        self.judge(SQUARE, ((3, -3), (1,), ()), True)
        self.judge(SQUARE, ((1, 3, 2, -1), (1,), ()), True)
        # It tells nothing.
        self.judge(((1, 2), (1, -2)), ((1, -1), ()), False)
        self.judge(((1, -1), (2, 1, -2)), ((),), False)
        self.judge(((1, -1), (1, 2), (-2, 1), (-1, 2), (-1, -2)), ((1,), ()), True)
        self.judge(((1, -1, 2), (-2,), (3, -3)), ((),), False)

    def test_a_literal_twice(self):
        self.judge(((1, 1), (-1, -1)), ((),), True)
        self.judge(((1, 2, 1), (1, -2), (-1, 2, 2), (-1, -2)), ((1, 1), (1, 1, 1), ()), True)
        self.judge(((1, 2, 2), (-1, -1)), ((2, 2),), False)
        self.judge(((1, 2, 2), (-1, -1), (-2, -2, -2)), ((2,), ()), True)

    def test_one_behind_the_other(self):
        many = 50
        chain = [(-at, at + 1) for at in range(1, many)]
        for clauses in (chain, chain[::-1]):
            self.judge((*clauses, (1,), (-many,)), ((),), True)
            self.judge(tuple(clauses), ((-1, many), ()), False)
            self.judge((*clauses, (1, 60), (-many, 60), (1, -60), (-many, -60)), ((60,), ()), True)
            self.judge((*clauses, (1, 60), (1, -60)), ((-60,), ()), False)
            for at in (0, 20, 48):
                self.judge((*clauses[:at], *clauses[at + 1:], (1,), (-many,)), ((),), False)

    def test_a_clause_helps_those_behind_it_alone(self):
        # From (1,) follows all; it follows only behind (1, 3).
        clauses = ((1, 3, 2), (1, 3, -2), (1, -3, 2), (1, -3, -2), (-1,))
        self.judge(clauses, ((1, 3), (1,), ()), True)
        self.judge(clauses, ((1,), (1, 3), ()), False)
        self.judge(clauses, ((1, 3), ()), True)
        self.judge(clauses, ((),), False)

    def test_a_literal_that_holds_by_itself(self):
        clauses = ((1,), (-1, 2), (3, 4), (3, -4), (-3, 4), (-3, -4))
        self.judge(clauses, ((1, 5), (6, 2), (-6, 7, 2, -7), (-5, 1), (3,), ()), True)
        self.judge(clauses, ((2, 8), (-1, 8), (3,), ()), False)
        self.judge(clauses, ((-2, 8), (3,), ()), False)
        self.assertEqual(trimmed(clauses, ((1, 5), (2, -5), (3, 2), (3,), ())), ((3,), ()))

    def test_what_needs_two_cases_does_not_follow(self):
        self.judge(SQUARE, ((),), False)
        many, clauses = birds(4, 3)
        self.judge(clauses, ((),), False)

    def test_changed_proofs(self):
        met = {True: 0, False: 0}
        for seed in range(150):
            chance = random.Random(seed)
            many = 3 + seed % 6
            clauses = made_clauses(seed, many, 45)
            proof = satisfy(many, clauses)[1]
            if not proof:
                continue
            self.judge(clauses, proof, True)
            more = made_clauses(seed + 1000, many, 1)
            at = chance.randrange(len(proof))
            turned = tuple(-literal for literal in proof[at])
            for other in (proof[:at] + proof[at + 1:], proof[:at] + (turned,) + proof[at + 1:], proof[:-1],
                          proof[:at] + more + proof[at:], tuple(chance.sample(proof, len(proof))), more + ((),)):
                expected = is_slow_proof(clauses, other)
                self.assertIs(is_proof(clauses, other), expected)
                met[expected] += 1
            for at in range(len(clauses)):
                other = clauses[:at] + clauses[at + 1:]
                self.assertIs(is_proof(other, proof), is_slow_proof(other, proof))
        self.assertGreater(min(met.values()), 100)

    def test_large_literals(self):
        high = 10 ** 30
        self.judge(((high, 5), (high, -5), (-high,)), ((),), True)
        self.judge(((high, 5), (high, -5), (-high, 5), (-high, -5)), ((high,), ()), True)

    def test_arguments_stay(self):
        clauses = [(2, 1), (-2, 1, 1), (-1, 2), (-1, -2)]
        proof = [(1,), ()]
        self.assertTrue(is_proof(clauses, proof))
        self.assertEqual((clauses, proof), ([(2, 1), (-2, 1, 1), (-1, 2), (-1, -2)], [(1,), ()]))

    def test_many_clauses(self):
        many, clauses = birds(7, 6)
        proof = satisfy(many, clauses)[1]
        self.assertTrue(is_proof(clauses, proof))
        self.assertFalse(is_proof(clauses[1:], proof))


class Values(unittest.TestCase):
    def test_small(self):
        self.assertIs(are_values((), ()), True)
        self.assertIs(are_values((), (True, False)), True)
        self.assertIs(are_values(((),), ()), False)
        self.assertIs(are_values(((1,), ()), (True,)), False)
        self.assertIs(are_values(((1,),), (True,)), True)
        self.assertIs(are_values(((1,),), (False,)), False)
        self.assertIs(are_values(((-1,),), (False,)), True)
        self.assertIs(are_values(((-1, 2), (1, 1)), (True, True)), True)
        self.assertIs(are_values(((-1, 2), (1, 1)), (True, False)), False)
        self.assertIs(are_values(((1, -1),), (False,)), True)

    def test_made_ones(self):
        for seed in range(200):
            chance = random.Random(seed)
            clauses = made_clauses(seed, 5, 6)
            values = tuple(chance.random() < 0.5 for _ in range(5))
            self.assertIs(are_values(clauses, values), satisfies(clauses, values))
            found = satisfy(5, clauses)[0]
            self.assertTrue(found is None or are_values(clauses, found))


class Trimming(unittest.TestCase):
    def judge(self, clauses, proof):
        found = trimmed(clauses, proof)
        self.assertIs(type(found), tuple)
        self.assertTrue(is_slow_proof(clauses, found))
        left = iter(proof)
        self.assertTrue(all(clause in left for clause in found), "in their order")
        for at in range(len(found) - 1):
            self.assertFalse(is_slow_proof(clauses, found[:at] + found[at + 1:]))
        return found

    def test_small(self):
        self.assertEqual(self.judge(SQUARE, ((1,), ())), ((1,), ()))
        self.assertEqual(len(self.judge(SQUARE, ((1,), (2,), ()))), 2)
        self.assertEqual(len(self.judge(SQUARE, ((3, -3), (1, 2), (-2, -2, -2), (1,), (1,), ()))), 2)
        self.assertEqual(self.judge(((1,), (-1,)), ((1,), (2,), ())), ((),))
        self.assertEqual(self.judge(((),), ((1,), (), ())), ((),))
        self.assertEqual(self.judge(((),), ((),)), ((),))

    def test_the_last_one_stays_as_it_stands(self):
        self.assertEqual(self.judge(SQUARE, ((2, 2), (), ())), ((2, 2), ()))
        self.assertEqual(self.judge(SQUARE, ((-1, -1), ())), ((-1, -1), ()))

    def test_what_is_needed_by_what_is_needed(self):
        # Without (1, 3) there is no (1,); what follows beside that is not needed.
        clauses = ((1, 3, 2), (1, 3, -2), (1, -3, 2), (1, -3, -2), (-1, 4, 5), (-1, 4, -5), (-1, -4, 5), (-1, -4, -5))
        found = self.judge(clauses, ((1, 3), (3, 4, 1), (1,), (4, 1, 2), (4,), ()))
        self.assertEqual(found, ((1, 3), (1,), (4,), ()))
        # Here (4,) is left out as the last one is looked at first.
        found = self.judge(clauses, ((1, 3), (1,), (-4,), (4,), ()))
        self.assertEqual(len(found), 4)

    def test_made_ones(self):
        shorter = 0
        for seed in range(150):
            chance = random.Random(seed)
            many = 5 + seed % 7
            clauses = tuple(tuple(chance.choice((1, -1)) * at for at in chance.sample(range(1, many + 1), 3))
                            for _ in range(9 * many))
            values, proof = satisfy(many, clauses)
            if values is not None:
                continue
            found = self.judge(clauses, proof)
            shorter += len(found) < len(proof)
            known = [frozenset(clause) for clause in clauses]
            more = tuple(clause for clause in made_clauses(seed + 500, many, 40) if follows(known, clause))
            self.judge(clauses, more + proof)
            self.judge(clauses, proof[:-1] + more + proof[-1:])
        self.assertGreater(shorter, 30)

    def test_birds(self):
        for many in range(1, 5):
            variables, clauses = birds(many + 1, many)
            self.judge(clauses, satisfy(variables, clauses)[1])

    def test_many_birds(self):
        variables, clauses = birds(7, 6)
        proof = satisfy(variables, clauses)[1]
        found = trimmed(clauses, proof)
        self.assertTrue(is_proof(clauses, found))
        for at in range(0, len(found) - 1, 25):
            self.assertFalse(is_proof(clauses, found[:at] + found[at + 1:]))


if __name__ == "__main__":
    unittest.main()
