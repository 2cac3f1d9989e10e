"""Promises 4.1 to 4.8."""

import random
import unittest

from machines import made_machine, made_state
from slow import Slow
from stagecut.check import check
from stagecut.diagram import diagram
from stagecut.onestep import start, step, steps
from stagecut.parser import parse
from stagecut.pipeline import Pipeline, drained, run_pipeline

FREE = -1


def plan_of(rows, items="reg a 8; reg b 8; reg c 1; file f 1 8; rom o 2 8;"):
    return check(parse(f"machine m {items} " + rows))


class Cycles(unittest.TestCase):
    """Small machines whose cycles were worked out by hand."""

    def run_it(self, plan, state, cycles):
        """The cycles in which something is done, and the pipeline behind them; what is done is right."""
        pipeline = Pipeline(plan, state)
        done = []
        found = []
        for at in range(cycles):
            told = pipeline.cycle()
            self.assertIsInstance(told, tuple)
            self.assertLessEqual(len(told), 1)
            if told:
                done.append(at)
                found.append(told[0])
        self.assertEqual(tuple(found), steps(plan, state, len(found))[0])
        self.assertEqual(run_pipeline(plan, state, cycles), tuple(zip(done, found)))
        return done, pipeline

    def judge(self, rows, cycles, done, waited, missed=0, roms=((0, 0, 0, 0),), state=None, slots=None):
        plan = plan_of(rows)
        state = start(plan, roms) if state is None else state
        found, pipeline = self.run_it(plan, state, cycles)
        self.assertEqual(found, done)
        self.assertEqual((pipeline.waited, pipeline.missed), (waited, missed))
        if slots is not None:
            self.assertEqual(diagram(plan, state, len(slots)), slots)


class Readings(Cycles):
    """Registers and files that are not guessed."""

    def test_at_first(self):
        plan = plan_of("at 0: let x = a; at 1:")
        pipeline = Pipeline(plan, start(plan, ((0,) * 4,)))
        self.assertEqual((pipeline.waited, pipeline.missed), ([0, 0], 0))
        self.assertTrue(pipeline.is_empty())
        self.assertEqual(pipeline.state(), start(plan, ((0,) * 4,)))

    def test_one_stage(self):
        self.judge("at 0: a := a + 1w8; f[0w1] := a;", 5, [0, 1, 2, 3, 4], [0])

    def test_nothing_to_wait_for(self):
        self.judge("at 0: let x = a; at 1: let y = x; at 2: let z = y;", 5, [2, 3, 4], [0, 0, 0])
        self.judge("at 0: at 1: a := a + 1w8;", 5, [1, 2, 3, 4], [0, 0])
        self.judge("at 0:" + "".join(f"at {at}:" for at in range(1, 8)), 9, [7, 8], [0] * 8)

    def test_values_are_passed_on(self):
        """A value that hangs on lets alone is known in their stage."""
        self.judge("at 0: let x = a + 1w8; at 1: at 2: at 3: a := x;", 8, [3, 4, 5, 6, 7], [0, 0, 0, 0])
        self.judge("at 0: let x = f[0w1] + 1w8; at 1: at 2: f[0w1] := x;", 6, [2, 3, 4, 5], [0, 0, 0])
        self.judge("at 0: let x = a; at 1: at 2: a := 7w8;", 6, [2, 3, 4, 5], [0, 0, 0])

    def test_values_not_known(self):
        """The second one waits in slot 0 until the first one is in slot 2, where it reads b."""
        self.judge("at 0: let x = a; at 1: at 2: a := x + b;", 8, [2, 4, 6], [4, 0, 0], slots=(
            (0, FREE, FREE), (1, 0, FREE), (1, FREE, 0), (2, 1, FREE), (2, FREE, 1), (3, 2, FREE),
        ))
        # A let of stage 1 is known there.
        self.judge("at 0: let x = a; at 1: let y = x + b; at 2: a := y;", 6, [2, 3, 4, 5], [0, 0, 0])
        self.judge("at 0: let x = a; at 1: at 2: let y = x + b; at 3: a := y;", 8, [3, 5, 7], [4, 0, 0, 0])

    def test_tests_not_known(self):
        self.judge("at 0: let x = a; at 1: at 2: a := 5w8 when c;", 6, [2, 4], [3, 0, 0])
        self.judge("at 0: let x = a; let t = c; at 1: at 2: a := 5w8 when t;", 6, [2, 3, 4, 5], [0, 0, 0])

    def test_tests_that_are_0(self):
        """One that does not write is passed by: its value does not matter, and what is further on is read."""
        self.judge("at 0: let x = a; let t = c; at 1: at 2: a := b when t;", 6, [2, 3, 4, 5], [0, 0, 0])
        # With a test that is 1, the value must be known.
        self.judge("at 0: let x = a; let t = ~c; at 1: at 2: a := b when t;", 6, [2, 4], [3, 0, 0])
        rows = "at 0: let x = a; let t = part(b, 0, 0); let y = b; at 1: b := y + 1w8; at 2: at 3: a := y when t;"
        plan = plan_of(rows)
        self.assertEqual([record[0][0] for _, record in run_pipeline(plan, start(plan, ((0,) * 4,)), 9)],
                         [0, 0, 1, 1, 3, 3])

    def test_addresses(self):
        # Known ones that differ are passed by; the value read in stage 2 is not known then.
        self.judge("at 0: let x = f[0w1]; at 1: at 2: f[1w1] := b;", 6, [2, 3, 4, 5], [0, 0, 0])
        self.judge("at 0: let x = f[1w1]; at 1: at 2: f[1w1] := b;", 6, [2, 4], [3, 0, 0])
        # One that is not known must be waited for, whatever it is.
        self.judge("at 0: let x = f[1w1]; at 1: at 2: f[c] := 5w8;", 6, [2, 4], [3, 0, 0])
        # But not if the test is 0.
        self.judge("at 0: let x = f[1w1]; let t = c; at 1: at 2: f[c] := 5w8 when t;", 6, [2, 3, 4, 5], [0, 0, 0])

    def test_addresses_that_alternate(self):
        """Each instruction turns c round, reads the word c and writes the word ~c."""
        rows = "at 0: let k = c; c := ~c; let x = f[k]; at 1: let y = x + 1w8; at 2: f[~k] := y;"
        plan = plan_of(rows)
        state = ((0, 0, 0), ((10, 20), (0, 0, 0, 0)))
        self.judge(rows, 7, [2, 3, 4, 5, 6], [0, 0, 0], state=state)
        self.assertEqual([record[1][-1] for _, record in run_pipeline(plan, state, 6)],
                         [(1, 1, 11), (1, 0, 12), (1, 1, 13), (1, 0, 14)])

    def test_the_nearest_one_tells(self):
        """Of two on the way that write, the younger one is read."""
        plan = plan_of("at 0: let x = b; b := b + 1w8; let y = a; at 1: at 2: at 3: a := x;")
        told = [record[0] for _, record in run_pipeline(plan, start(plan, ((0,) * 4,)), 8)]
        self.assertEqual(told, [(0, 0), (1, 0), (2, 1), (3, 2), (4, 3)])

    def test_own_stage(self):
        # In the stage in which it is written, a register is just read.
        self.judge("at 0: at 1: at 2: let y = a; a := b + y; b := a;", 5, [2, 3, 4], [0, 0, 0])

    def test_what_nothing_writes_is_just_read(self):
        self.judge("at 0: at 1: at 2: let x = a + o[1w2] + f[0w1];", 4, [2, 3], [0, 0, 0], roms=((1, 2, 3, 4),))

    def test_all_parts_are_read(self):
        """Both parts of a pick, and what stands behind a test that is 0."""
        self.judge("at 0: let x = 0w1 ? a : b; at 1: a := b;", 5, [1, 2, 3, 4], [0, 0])
        self.judge("at 0: let x = 1w1 ? b : a; at 1: at 2: a := b;", 6, [2, 4], [3, 0, 0])
        self.judge("at 0: b := a when 0w1; at 1: at 2: a := a + 1w8;", 6, [2, 4], [3, 0, 0])
        self.judge("at 0: f[part(a, 0, 0)] := 1w8; at 1: at 2: a := a;", 6, [2, 4], [3, 0, 0])

    def test_going_on_hangs_on_the_slot_ahead(self):
        """Slot 1 waits for what is known in slot 3; those behind it stay, but do not wait."""
        self.judge("at 0: at 1: let x = a; at 2: at 3: a := x + b;", 8, [3, 5, 7], [0, 3, 0, 0], slots=(
            (0, FREE, FREE, FREE), (1, 0, FREE, FREE), (2, 1, 0, FREE), (2, 1, FREE, 0), (3, 2, 1, FREE),
            (3, 2, FREE, 1), (4, 3, 2, FREE),
        ))


class Guesses(Cycles):
    """Guessed registers."""

    def test_right_guesses(self):
        self.judge("at 0: let x = a; guess a = x + 1w8; at 1: at 2: a := x + 1w8;", 6, [2, 3, 4, 5], [0, 0, 0])

    def test_wrong_guesses(self):
        """A wrong guess is found in the last stage: those behind vanish, the next one comes in."""
        self.judge("at 0: let x = a; guess a = x + 1w8; at 1: at 2: a := x + 2w8;", 9, [2, 5, 8], [0, 0, 0], 3, slots=(
            (0, FREE, FREE), (1, 0, FREE), (2, 1, 0), (3, FREE, FREE), (4, 3, FREE), (5, 4, 3), (6, FREE, FREE),
        ))
        # Found in stage 1, the one behind it goes on with its rows.
        self.judge("at 0: let x = a; guess a = x + 1w8; at 1: a := x + 2w8; at 2: let y = x;", 8, [2, 4, 6],
                   [0, 0, 0], 4, slots=((0, FREE, FREE), (1, 0, FREE), (2, FREE, 0), (3, 2, FREE), (4, FREE, 2)))

    def test_some_wrong(self):
        """a counts from 0 to 2 and begins anew."""
        rows = "at 0: let x = a; guess a = x + 1w8; at 1: let y = x == 2w8; at 2: a := y ? 0w8 : x + 1w8;"
        self.judge(rows, 11, [2, 3, 4, 7, 8, 9], [0, 0, 0], 2)

    def test_what_vanishes_writes_nothing(self):
        rows = """at 0: let x = a; guess a = x + 1w8; at 1: at 2: a := x + 2w8; b := b + 1w8; f[0w1] := b;
        c := ~c;"""
        plan = plan_of(rows)
        state = start(plan, ((0,) * 4,))
        records, end = drained(plan, state, 4)
        self.assertEqual((len(records), end), (4, ((8, 4, 0), ((3, 0), (0,) * 4))))
        pipeline = Pipeline(plan, state)
        for _ in range(3):
            pipeline.cycle()
        self.assertTrue(pipeline.is_empty())
        self.assertEqual(pipeline.state(), ((2, 1, 1), ((0, 0), (0,) * 4)))

    def test_fronts(self):
        """Behind a wrong guess the front is what was written; a guess is read where it is known."""
        rows = "at 0: let x = a; at 1: guess a = x + 1w8; at 2: at 3: a := x == 1w8 ? 7w8 : x + 1w8;"
        plan = plan_of(rows)
        told = run_pipeline(plan, start(plan, ((0,) * 4,)), 14)
        self.assertEqual([record[0][0] for _, record in told], [0, 1, 7, 8, 9, 10, 11, 12])
        self.assertEqual([at for at, _ in told], [3, 4, 8, 9, 10, 11, 12, 13])

    def test_guesses_not_known(self):
        """The guess reads b in stage 1; one in slot 0 is told what it is in the same cycle."""
        self.judge("at 0: let x = a; at 1: guess a = b; at 2: a := 0w8;", 6, [2, 3, 4, 5], [0, 0, 0])
        self.judge("at 0: let x = a; at 1: at 2: guess a = b; at 3: a := 0w8;", 8, [3, 5, 7], [4, 0, 0, 0])
        # Known from a let in stage 0, it is read ahead of its stage.
        self.judge("at 0: let x = a; at 1: at 2: guess a = x; at 3: a := x;", 6, [3, 4, 5], [0, 0, 0, 0])

    def test_two_guessed_at_once(self):
        """b is wrong in stage 2, behind which a, guessed in stage 0, has been written by the one behind it."""
        items = "reg a 8; reg b 8; reg n 8;"
        rows = """at 0: let x = a; guess a = x + 1w8; let y = b; guess b = y; at 1: a := x + 1w8;
        at 2: b := part(x, 0, 0) ? y + 1w8 : y; let z = n; at 3: n := n + 1w8;"""
        plan = plan_of(rows, items)
        state = start(plan, ())
        pipeline = Pipeline(plan, state)
        found = []
        for _ in range(30):
            found.extend(pipeline.cycle())
        self.assertEqual(tuple(found), steps(plan, state, len(found))[0])
        self.assertEqual([record[0][:2] for record in found[:6]], [(0, 0), (1, 0), (2, 1), (3, 1), (4, 2), (5, 2)])
        self.assertGreater(pipeline.missed, 4)
        while not pipeline.is_empty():
            found.extend(pipeline.cycle(feed=False))
        self.assertEqual(pipeline.state(), steps(plan, state, len(found))[1])

    def test_front_of_a_later_one_stays_a_guess(self):
        """When b is found wrong in stage 1, a's front is what this instruction guesses for a."""
        items = "reg a 8; reg b 8;"
        rows = """at 0: let x = a; let y = b; guess a = x + 1w8; guess b = y; at 1: b := y + 1w8; at 2:
        at 3: a := x + 1w8;"""
        plan = plan_of(rows, items)
        told = run_pipeline(plan, start(plan, ()), 12)
        self.assertEqual([(at, record[0]) for at, record in told],
                         [(3, (0, 0)), (5, (1, 1)), (7, (2, 2)), (9, (3, 3)), (11, (4, 4))])

    def test_waiting_and_vanishing_at_once(self):
        """In cycle 2 the second one waits for b and vanishes: it waited, and it writes nothing."""
        items = "reg a 8; reg b 8; reg d 8;"
        rows = """at 0: let x = a; guess a = x; at 1: let y = b; at 2: a := x + 1w8;
        at 3: b := b + d + 1w8;"""
        plan = plan_of(rows, items)
        pipeline = Pipeline(plan, start(plan, ()))
        seen = []
        for _ in range(4):
            pipeline.cycle()
            seen.append((list(pipeline.waited), pipeline.missed))
        self.assertEqual(seen, [([0] * 4, 0), ([0] * 4, 0), ([0, 1, 0, 0], 1), ([0, 1, 0, 0], 1)])


class Methods(unittest.TestCase):
    def test_feed(self):
        plan = plan_of("at 0: at 1: a := a + 1w8;")
        pipeline = Pipeline(plan, start(plan, ((0,) * 4,)))
        self.assertEqual(pipeline.cycle(feed=False), ())
        self.assertTrue(pipeline.is_empty())
        self.assertEqual(pipeline.cycle(), ())
        self.assertFalse(pipeline.is_empty())
        self.assertEqual(pipeline.cycle(feed=False), (((), ((0, None, 1),)),))
        self.assertTrue(pipeline.is_empty())
        self.assertEqual(pipeline.cycle(feed=True), ())
        self.assertEqual(pipeline.cycle(), (((), ((0, None, 2),)),))
        self.assertEqual(pipeline.cycle(feed=False), (((), ((0, None, 3),)),))
        with self.assertRaises(TypeError):
            pipeline.cycle(False)

    def test_a_state_that_is_given_stays(self):
        plan = plan_of("at 0: a := a + 1w8; f[0w1] := a;")
        state = start(plan, ((0,) * 4,))
        pipeline = Pipeline(plan, state)
        first = pipeline.state()
        pipeline.cycle()
        pipeline.cycle()
        self.assertEqual((state, first), (start(plan, ((0,) * 4,)),) * 2)
        waited = pipeline.waited
        self.assertIsInstance(waited, list)

    def test_drained(self):
        plan = plan_of("at 0: at 1: at 2: a := a + 1w8;")
        state = start(plan, ((0,) * 4,))
        self.assertEqual(drained(plan, state, 0), ((), state))
        records, end = drained(plan, state, 1)
        self.assertEqual((len(records), end[0][0]), (3, 3))
        records, end = drained(plan, state, 5)
        self.assertEqual((len(records), end[0][0]), (7, 7))

    def test_run(self):
        plan = plan_of("at 0: at 1: a := a + 1w8;")
        self.assertEqual(run_pipeline(plan, start(plan, ((0,) * 4,)), 0), ())
        self.assertEqual(run_pipeline(plan, start(plan, ((0,) * 4,)), 1), ())
        self.assertEqual(run_pipeline(plan, start(plan, ((0,) * 4,)), 3),
                         ((1, ((), ((0, None, 1),))), (2, ((), ((0, None, 2),)))))


class Made(unittest.TestCase):
    """Machines made by chance."""

    def test_what_is_done(self):
        for seed in range(250):
            plan = check(made_machine(seed, guesses=3))
            state = made_state(seed, plan)
            pipeline = Pipeline(plan, state)
            done = []
            now = state
            for at in range(30):
                for record in pipeline.cycle():
                    expected, now = step(plan, now)
                    self.assertEqual(record, expected, seed)
                    done.append(record)
                self.assertGreaterEqual(len(done), (at + 1) // (plan[0] + 1), seed)
                if pipeline.is_empty():
                    self.assertEqual(pipeline.state(), now, seed)
            while not pipeline.is_empty():
                for record in pipeline.cycle(feed=False):
                    expected, now = step(plan, now)
                    self.assertEqual(record, expected, seed)
            self.assertEqual(pipeline.state(), now, seed)

    def test_word_by_word(self):
        """Cycle by cycle the same as a pipeline that is told as the document tells it."""
        waited = missed = 0
        for seed in range(150):
            plan = check(made_machine(seed, guesses=3))
            state = made_state(seed, plan)
            slow = Slow(plan, (state,))
            pipeline = Pipeline(plan, state)
            chance = random.Random(seed)
            for _ in range(25):
                feed = chance.random() < 0.9
                done, _ = slow.cycle(feed)
                self.assertEqual(pipeline.cycle(feed=feed), tuple(record for _, _, record in done), seed)
                self.assertEqual((pipeline.waited, pipeline.missed), (slow.waited, slow.missed), seed)
                self.assertEqual(pipeline.state(), slow.state(), seed)
            waited += sum(pipeline.waited)
            missed += pipeline.missed
        self.assertGreater(waited, 100)
        self.assertGreater(missed, 100)

    def test_drained(self):
        for seed in range(60):
            plan = check(made_machine(seed))
            state = made_state(seed, plan)
            records, end = drained(plan, state, 7)
            self.assertGreaterEqual(len(records), 7)
            self.assertEqual((records, end), steps(plan, state, len(records)))


if __name__ == "__main__":
    unittest.main()
