"""Promises 0.4 and 0.5: nested texts and large machines."""

import unittest

from machines import made_circuit, made_contents, made_machine, made_net, made_roms, made_state
from stagecut.balance import balance
from stagecut.blast import blast, words_told
from stagecut.build import build, record_of
from stagecut.build_step import build_step, watch, watch_contents
from stagecut.check import check
from stagecut.circuit_run import run_circuit
from stagecut.compare import difference
from stagecut.events import run_events
from stagecut.gates import cycle_of, run_net
from stagecut.levels import depth, level_counts, longest
from stagecut.net_image import read_net, write_net
from stagecut.net_text import parse_net, print_net
from stagecut.onestep import start, step, steps
from stagecut.parser import parse, parse_expr
from stagecut.pipeline import Pipeline, drained
from stagecut.printing import print_expr, print_machine
from stagecut.recut import heaviest, recut
from stagecut.same_step import same_step
from stagecut.satisfy import satisfy
from stagecut.shrink import shrink
from stagecut.simplify import simplify
from stagecut.waves import changes, filled, print_waves, read_waves

DEEP = 40
# What an expression is put into, again and again.
NESTS = (
    ("(", ")"), ("~(", ")"), ("wide(", ", 8)"), ("part(", ", 0, 7)"), ("part(join(", ", a), 0, 7)"), ("f[", "]"),
    ("a + (", ")"), ("(", ") * a"), ("b ? (", ") : a"), ("b ? a : (", ")"), ("(", ") == a ? a : 1w8"),
    ("a | a ^ a & (a << a + a * (", "))"), ("~~~(", ")"),
)


def nested(nest, text="a"):
    return nest[0] * DEEP + text + nest[1] * DEEP


class Nested(unittest.TestCase):
    def test_expressions(self):
        for nest in NESTS:
            text = nested(nest)
            tree = parse_expr(text)
            self.assertEqual(parse_expr(print_expr(tree)), tree)
        self.assertEqual(parse_expr(nested(("(", ")"))), ("name", "a"))
        self.assertEqual(print_expr(parse_expr(nested(("~(", ")")))), "~" * DEEP + "a")
        for nest in (("wide(", ", 8)"), ("f[", "]"), ("part(", ", 0, 7)")):
            self.assertEqual(print_expr(parse_expr(nested(nest))), nested(nest))

    def test_machines(self):
        rows = "".join(f"let x{at} = {nested(nest)};" for at, nest in enumerate(NESTS) if nest[0] != "f[")
        deep = "f[" * DEEP + "1w6" + "]" * DEEP
        text = "machine m reg a 8; reg b 1; file f 6 6; at 0:" + rows + f"let y = {deep}; a := a + 1w8; b := ~b;"
        tree = parse(text)
        self.assertEqual(parse(print_machine(tree)), tree)
        plan = check(tree)
        state = start(plan, ())
        records, end = steps(plan, state, 5)
        self.assertEqual(steps(check(simplify(tree)), state, 5), (records, end))
        self.assertEqual(records[3][0][0], 3)
        self.assertEqual(drained(plan, state, 5), (records, end))
        self.judge_circuits(plan, records)
        self.assertEqual(recut(tree, 1), tree)
        self.assertEqual(heaviest(tree), sum(heaviest(("m", (), ((row,),))) for row in tree[2][0]))

    def judge_circuits(self, plan, records):
        contents = start(plan, ())[1]
        for circuit in (build(plan), build_step(plan)):
            told = run_circuit(circuit, contents, len(records))
            self.assertEqual(tuple(record_of(plan, row) for row in told), records)
            net = blast(circuit, contents)
            bits = run_net(net, len(records))
            self.assertEqual(tuple(words_told(circuit, row) for row in bits), told)
            self.assertEqual(run_net(balance(shrink(net)), len(records)), bits)


class Large(unittest.TestCase):
    def test_200_rows(self):
        rows = ["at 0: let x0 = a;"]
        for at in range(1, 199):
            if at % 25 == 0:
                rows.append(f"at {at // 25}:")
            rows.append(f"let x{at} = x{at - 1} + {at % 7}w32;")
        rows.append("a := x198;")
        tree = parse("machine m reg a 32; " + "\n".join(rows))
        self.assertEqual(parse(print_machine(tree)), tree)
        plan = check(tree)
        self.assertEqual((plan[0], len(plan[3])), (8, 199))
        state = start(plan, ())
        records, end = drained(plan, state, 4)
        # Each instruction waits in slot 0 until the value of the one ahead of it is known.
        self.assertEqual(len(records), 5)
        self.assertEqual((records, end), steps(plan, state, 5))
        self.assertEqual(end[0][0], 5 * sum(at % 7 for at in range(1, 199)))
        self.judge_circuits(plan, (), records, 40)

    def judge_circuits(self, plan, roms, records, cycles):
        """The circuit and its net are done with these records first."""
        contents = start(plan, roms)[1]
        circuit = build(plan)
        told = run_circuit(circuit, contents, cycles)
        done = [record_of(plan, row) for row in told if row[0]]
        self.assertEqual(tuple(done[:len(records)]), records)
        net = blast(circuit, contents)
        bits = run_net(net, cycles)
        self.assertEqual(tuple(words_told(circuit, row) for row in bits), told)
        self.assertEqual(run_events(net, cycles)[0], bits)
        self.assertEqual(read_net(write_net(net)), net)
        self.assertEqual(parse_net(print_net(net)), net)
        small = shrink(net)
        self.assertEqual(run_net(small, cycles), bits)
        flat = balance(small)
        self.assertEqual(run_net(flat, cycles), bits)
        self.assertEqual(len(longest(flat)), depth(flat) + 1)
        self.assertEqual(sum(level_counts(flat)), len(flat[1]))
        watched = run_circuit(watch(plan), watch_contents(plan, contents), cycles)
        self.assertEqual(watched, tuple((row[0], 0) for row in told))
        steps_told = run_circuit(build_step(plan), contents, len(records))
        self.assertEqual(tuple(record_of(plan, row) for row in steps_told), records)

    def test_many_made_rows(self):
        for seed in range(3):
            tree = made_machine(seed, stages=8, rows=40)
            self.assertGreater(sum(len(rows) for rows in tree[2]), 100)
            self.assertEqual(parse(print_machine(tree)), tree)
            plan = check(tree)
            state = made_state(seed, plan)
            records, end = drained(plan, state, 6)
            self.assertEqual((records, end), steps(plan, state, len(records)))
            roms = made_roms(seed, plan)
            self.judge_circuits(plan, roms, steps(plan, start(plan, roms), 4)[0], 60)


class Kept(unittest.TestCase):
    def test_what_is_returned_is_plain(self):
        for seed in range(20):
            plan = check(made_machine(seed))
            state = made_state(seed, plan)
            self.only_plain(plan)
            self.only_plain(step(plan, state))
            pipeline = Pipeline(plan, state)
            for _ in range(12):
                self.only_plain(pipeline.cycle())
                self.only_plain(pipeline.state())

    def test_what_circuits_and_nets_tell_is_plain(self):
        for seed in range(20):
            plan = check(made_machine(seed))
            for circuit in (build(plan), build_step(plan), watch(plan), made_circuit(seed)):
                self.only_integers(circuit)
                contents = made_contents(seed, circuit)
                told = run_circuit(circuit, contents, 5)
                net = blast(circuit, contents)
                self.only_integers(net)
                self.only_integers(words_told(circuit, run_net(net, 1)[0]))
                self.only_integers(run_events(net, 3))
                self.only_integers(changes(told))
                self.only_integers(filled(changes(told), 5))
                names = tuple("a" for _ in circuit[5])
                self.only_integers(read_waves(print_waves(names, told)))
                self.only_integers(record_of(plan, run_circuit(build_step(plan), start(plan, made_roms(seed, plan))[1],
                                                               1)[0]))
            net = made_net(seed, latches=4)
            self.only_integers(cycle_of(net, net[0]))
            self.only_integers(read_net(write_net(net)))
            self.only_integers(parse_net(print_net(net)))
            self.only_integers(shrink(net))
            self.only_integers(balance(net))
            self.only_integers((depth(net), longest(net), level_counts(net)))
            other = (*net[:2], tuple(literal ^ 1 for literal in net[2]), net[3])
            self.only_integers(difference(net, other, 1000))
            turned = parse("machine m reg a 3; at 0: a := a + 1w3;"), parse("machine m reg a 3; at 0: a := ~a;")
            self.only_integers(same_step(check(turned[0]), check(turned[1]), 1000))
        for clauses in (((1, 2), (-1,)), ((1,), (-1, 2), (-2, -1))):
            values, proof = satisfy(2, clauses)
            self.assertTrue(values is None or all(type(worth) is bool for worth in values))
            self.only_integers(proof)

    def only_integers(self, thing):
        """Tuples, strings, integers and None."""
        if type(thing) is tuple:
            for part in thing:
                self.only_integers(part)
        else:
            self.assertIn(type(thing), (int, str, type(None)))

    def only_plain(self, thing):
        """Tuples, strings, integers and None; truths only where roms are told."""
        if type(thing) is tuple:
            for part in thing:
                self.only_plain(part)
        else:
            self.assertIn(type(thing), (int, str, bool, type(None)))

    def test_no_truths_among_words(self):
        for seed in range(20):
            plan = check(made_machine(seed))
            state = made_state(seed, plan)
            for (lets, writes), regs in ((step(plan, state)[0], step(plan, state)[1][0]),):
                self.assertTrue(all(type(told) is int for told in lets + regs))
                self.assertTrue(all(type(told) is int for _, _, told in writes))


if __name__ == "__main__":
    unittest.main()
