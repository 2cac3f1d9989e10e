"""Promise 10.9."""

import random
import unittest

from proofs import birds
from stagecut.errors import BadLine
from stagecut.proof_text import print_clauses, print_proof, read_clauses, read_proof
from stagecut.satisfy import satisfy
from test_satisfy import made_clauses

LONG = "9" * 5000
LARGE = 10 ** 5000 - 1


class Printing(unittest.TestCase):
    def judge(self, many, clauses):
        text = print_clauses(many, clauses)
        self.assertEqual(read_clauses(text), (many, clauses))
        self.assertIs(type(read_clauses(text)), tuple)
        return text

    def judge_proof(self, proof):
        text = print_proof(proof)
        self.assertEqual(read_proof(text), proof)
        return text

    def test_small(self):
        self.assertEqual(self.judge(3, ((1, -3), (2,), ())), "p cnf 3 3\n1 -3 0\n2 0\n0\n")
        self.assertEqual(self.judge(0, ()), "p cnf 0 0\n")
        self.assertEqual(self.judge(0, ((),)), "p cnf 0 1\n0\n")
        self.assertEqual(self.judge(12, ((-12, -12, 10), (1, -1))), "p cnf 12 2\n-12 -12 10 0\n1 -1 0\n")

    def test_proofs(self):
        self.assertEqual(self.judge_proof(()), "")
        self.assertEqual(self.judge_proof(((),)), "0\n")
        self.assertEqual(self.judge_proof(((1, -20), (), (3,))), "1 -20 0\n0\n3 0\n")

    def test_made_ones(self):
        for seed in range(60):
            clauses = made_clauses(seed, 30, seed, 6)
            self.judge(30, clauses)
            self.judge_proof(clauses)
        many, clauses = birds(5, 4)
        self.judge(many, clauses)
        self.judge_proof(satisfy(many, clauses)[1])

    def test_numbers_of_many_digits(self):
        self.assertEqual(self.judge(LARGE, ((LARGE, -LARGE), (1,))), f"p cnf {LONG} 2\n{LONG} -{LONG} 0\n1 0\n")
        self.assertEqual(self.judge_proof(((-LARGE,), ())), f"-{LONG} 0\n0\n")


class Wrong(unittest.TestCase):
    def bad(self, text, line):
        with self.assertRaises(BadLine) as caught:
            read_clauses(text)
        self.assertEqual(caught.exception.line, line, text[:60])

    def bad_proof(self, text, line):
        with self.assertRaises(BadLine) as caught:
            read_proof(text)
        self.assertEqual(caught.exception.line, line, text[:60])

    def test_newline_at_the_end(self):
        self.bad("", 1)
        self.bad("p cnf 0 0", 1)
        self.bad("p cnf 1 1\n1 0", 2)
        self.bad("p cnf 1 1\nx\n1 0", 3)
        self.bad("wrong\n1 0\n0", 3)
        self.bad_proof("0", 1)
        self.bad_proof("1 0\n2 0", 2)
        self.bad_proof("x\n2 0\n0", 3)

    def test_heads(self):
        for head in ("", "p", "p cnf", "p cnf 1", "p cnf 1 1 1", "q cnf 1 1", "p cnd 1 1", "P cnf 1 1", "p  cnf 1 1",
                     " p cnf 1 1", "p cnf 1 1 ", "p cnf 01 1", "p cnf 1 01", "p cnf -1 1", "p cnf 1 -0", "p cnf 1 x",
                     "p cnf x 1", "p cnf 1 ", "p cnf  1", "p cnf +1 1", "p cnf 1 1.", "cnf p 1 1", "p\tcnf 1 1",
                     f"p cnf 0{LONG} 1", f"p cnf {LONG}x 1"):
            self.bad(head + "\n1 0\n", 1)
            self.bad(head + "\nx\n", 1)

    def test_lines(self):
        for line in ("", "1", "1 2", "0 0", "0 1 0", "1 0 0", "1 0 2 0", "x 0", "01 0", "1 00", "-0 0", "-0", "1 -0",
                     "--1 0", "+1 0", "- 0", "1  0", " 1 0", "1 0 ", "-01 0", "1.0 0", "1-1 0", "1 2 o", f"0{LONG} 0",
                     f"1 0{LONG}"):
            self.bad(f"p cnf 3 1\n{line}\n", 2)
            self.bad(f"p cnf 3 3\n1 0\n2 3 0\n{line}\n", 4)
            self.bad(f"p cnf 3 3\n1 0\n{line}\n{line}\n", 3)
            self.bad_proof(f"{line}\n", 1)
            self.bad_proof(f"1 2 0\n0\n{line}\n0\n", 3)

    def test_beyond_the_variables(self):
        self.bad("p cnf 3 2\n3 0\n1 4 0\n", 3)
        self.bad("p cnf 3 2\n3 0\n-4 1 0\n", 3)
        self.bad("p cnf 0 1\n1 0\n", 2)
        self.bad(f"p cnf 3 1\n{LONG} 0\n", 2)
        self.bad(f"p cnf {LONG} 1\n1{LONG} 0\n", 2)
        self.assertEqual(read_clauses("p cnf 3 1\n3 -3 0\n"), (3, ((3, -3),)))
        self.assertEqual(read_proof("4 0\n"), ((4,),))

    def test_one_too_many(self):
        self.bad("p cnf 3 1\n1 0\n2 0\n", 3)
        self.bad("p cnf 3 1\n1 0\nx\n", 3)
        self.bad("p cnf 3 1\n1 0\n\n", 3)
        self.bad("p cnf 3 0\n0\n0\n", 2)
        self.bad("p cnf 3 1\n4 0\n2 0\n", 2)

    def test_too_few(self):
        self.bad("p cnf 3 1\n", 2)
        self.bad("p cnf 3 3\n1 0\n2 0\n", 4)
        self.bad(f"p cnf 3 {LONG}\n1 0\n", 3)
        self.bad("p cnf 3 3\n1 0\nx\n", 3)

    def test_changed_texts(self):
        """Whatever is read is printed as the same text again."""
        whole = "p cnf 12 3\n1 -12 0\n0\n10 2 0\n"
        for at in range(len(whole)):
            for sign in ("", "0", "1", "-", " ", "\n", "p", "00"):
                text = whole[:at] + sign + whole[at + 1:]
                try:
                    found = read_clauses(text)
                except BadLine as error:
                    self.assertTrue(1 <= error.line <= text.count("\n") + 1)
                    continue
                self.assertEqual(print_clauses(*found), text)

    def test_mixed_ones(self):
        chance = random.Random(5)
        for _ in range(300):
            text = "".join(chance.choice("01- \n") for _ in range(chance.randint(0, 8)))
            try:
                proof = read_proof(text)
            except BadLine:
                continue
            self.assertEqual(print_proof(proof), text)


if __name__ == "__main__":
    unittest.main()
