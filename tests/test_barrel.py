"""Promises 5.1 and 5.2."""

import unittest

from machines import made_machine, made_state
from slow import Slow
from stagecut.barrel import run_barrel
from stagecut.check import check
from stagecut.onestep import start, steps
from stagecut.parser import parse
from stagecut.pipeline import Pipeline, run_pipeline

ITEMS = "machine m reg a 8; reg b 8; file f 1 8; "
WAITING = "at 0: let x = a; at 1: at 2: a := x + b;"
WRONG = "at 0: let x = a; guess a = x + 1w8; at 1: at 2: a := x + 2w8; f[0w1] := x;"


class Hand(unittest.TestCase):
    def test_turns(self):
        plan = check(parse(ITEMS + "at 0: let x = a; at 1: a := a + 1w8;"))
        states = tuple(((10 * at, 0), ((0, 0),)) for at in range(3))
        done, waits = run_barrel(plan, states, 7)
        self.assertEqual([(at, thread, record[0][0]) for at, thread, record in done],
                         [(1, 0, 0), (2, 1, 10), (3, 2, 20), (4, 0, 1), (5, 1, 11), (6, 2, 21)])
        self.assertEqual(waits, 0)

    def test_waiting_for_the_own_thread_alone(self):
        """With two threads, the third one waits for the first one only as long as this is in slot 1."""
        plan = check(parse(ITEMS + WAITING))
        state = start(plan, ())
        alone = run_barrel(plan, (state,), 8)
        self.assertEqual(([at for at, _, _ in alone[0]], alone[1]), ([2, 4, 6], 4))
        two = run_barrel(plan, (state, state), 8)
        self.assertEqual([(at, thread) for at, thread, _ in two[0]],
                         [(2, 0), (3, 1), (4, 0), (5, 1), (6, 0), (7, 1)])
        self.assertEqual(two[1], 0)

    def test_vanishing_of_the_own_thread_alone(self):
        plan = check(parse(ITEMS + WRONG))
        state = start(plan, ())
        done, waits = run_barrel(plan, (state, state), 12)
        # Number 2 (thread 0) vanishes when number 0 is done, but number 1 goes on, and number 3 vanishes with it.
        self.assertEqual([(at, thread, record[0][0]) for at, thread, record in done[:4]],
                         [(2, 0, 0), (3, 1, 0), (6, 0, 2), (7, 1, 2)])
        self.assertEqual(waits, 0)

    def test_no_cycles(self):
        plan = check(parse(ITEMS + WAITING))
        self.assertEqual(run_barrel(plan, (start(plan, ()),), 0), ((), 0))

    def test_one_thread_is_a_pipeline(self):
        for seed in range(60):
            plan = check(made_machine(seed))
            state = made_state(seed, plan)
            done, waits = run_barrel(plan, (state,), 25)
            self.assertEqual(tuple((at, record) for at, _, record in done), run_pipeline(plan, state, 25))
            self.assertEqual({thread for _, thread, _ in done} | {0}, {0})
            pipeline = Pipeline(plan, state)
            for _ in range(25):
                pipeline.cycle()
            self.assertEqual(waits, sum(pipeline.waited))


class Made(unittest.TestCase):
    def states(self, seed, plan, many):
        return tuple(made_state(seed * 20 + at, plan) for at in range(many))

    def test_each_thread_does_its_steps(self):
        for seed in range(100):
            plan = check(made_machine(seed, guesses=3))
            for many in sorted({1, 2, 3, plan[0] - 1, plan[0], plan[0] + 1, plan[0] + 3} - {0}):
                states = self.states(seed, plan, many)
                done, waits = run_barrel(plan, states, 26)
                self.assertGreaterEqual(len(done), 26 // (plan[0] + 1))
                for thread in range(many):
                    records = tuple(record for _, other, record in done if other == thread)
                    self.assertEqual(records, steps(plan, states[thread], len(records))[0], (seed, many))
                if many >= plan[0]:
                    self.assertEqual(waits, 0)
                    self.assertEqual([(at, thread) for at, thread, _ in done],
                                     [(at, (at - plan[0] + 1) % many) for at in range(plan[0] - 1, 26)])

    def test_at_least_so_many(self):
        for seed in range(60):
            plan = check(made_machine(seed, guesses=3))
            for many in (1, 2, plan[0]):
                states = self.states(seed, plan, many)
                cycles = [at for at, _, _ in run_barrel(plan, states, 40)[0]]
                for many_cycles in range(41):
                    done = sum(at < many_cycles for at in cycles)
                    self.assertGreaterEqual(done, many_cycles // (plan[0] + 1), (seed, many))

    def test_word_by_word(self):
        for seed in range(80):
            plan = check(made_machine(seed, guesses=3))
            for many in (2, 3):
                states = self.states(seed, plan, many)
                slow = Slow(plan, states)
                told = tuple((at, thread, record) for at in range(25) for thread, _, record in slow.cycle()[0])
                self.assertEqual(run_barrel(plan, states, 25), (told, sum(slow.waited)), (seed, many))


if __name__ == "__main__":
    unittest.main()
