"""Promises 0.3 to 0.5 over the whole program: all that is made of a machine tells the same."""

import copy
import unittest

from machines import made_machine, made_roms
from stagecut.assemble import assemble, listed, parse_code, parse_forms, print_code
from stagecut.balance import balance
from stagecut.blast import blast, words_told
from stagecut.build import build, record_of
from stagecut.build_step import watch, watch_contents
from stagecut.cells import pack_cells, run_cells
from stagecut.check import check
from stagecut.circuit_run import run_circuit
from stagecut.events import run_events
from stagecut.fabric import run_fabric, set_up
from stagecut.fabric_image import read_fabric, write_fabric
from stagecut.fold import fold
from stagecut.gates import run_net
from stagecut.never import holds_on, is_never, never
from stagecut.onestep import start, steps
from stagecut.parser import parse
from stagecut.physical import by_fabric
from stagecut.place import place_cells, wire_length
from stagecut.proof_text import print_clauses, print_proof, read_clauses, read_proof
from stagecut.proofs import are_values, is_proof, trimmed
from stagecut.proved import is_proved, wrong_roms
from stagecut.report import sizes
from stagecut.route import route_cells
from stagecut.run import (assemble_text, by_gates, by_rows, by_steps, by_tables, compile_text, first_difference,
                          net_of, speed)
from stagecut.shrink import shrink
from stagecut.tables import map_tables, run_tables, table_levels
from stagecut.timing import slowest
from stagecut.unroll import agree
from test_limits import nested

DEEP = 40


class Alike(unittest.TestCase):
    def judge(self, plan, roms, cycles, size):
        """The pipeline, the circuit, the net, the tables, the cells and the fabric tell in each cycle the same."""
        state = start(plan, roms)
        expected = by_steps(plan, roms, cycles)
        done = tuple(record for record in expected if record is not None)
        self.assertEqual(done, steps(plan, state, len(done))[0])
        self.assertGreaterEqual(len(done), cycles // (plan[0] + 1))
        circuit = build(plan)
        bits = None
        for made in (circuit, fold(circuit)):
            told = run_circuit(made, state[1], cycles)
            self.assertEqual(tuple(record_of(plan, row) for row in told), expected)
            net = blast(made, state[1])
            bits = run_net(net, cycles)
            self.assertEqual(tuple(words_told(made, row) for row in bits), told)
            self.assertEqual(run_events(net, cycles)[0], bits)
            small = shrink(net)
            for other in (net, small, balance(net), balance(small)):
                self.assertEqual(run_net(other, cycles), bits)
                self.judge_tables(other, bits, cycles, size, other is not net)
        watched = run_circuit(watch(plan), watch_contents(plan, state[1]), cycles)
        self.assertEqual(watched, tuple((int(record is not None), 0) for record in expected))

    def judge_tables(self, net, bits, cycles, size, lays_out):
        tabled = map_tables(net, size)
        self.assertEqual(run_tables(tabled, cycles), bits)
        packed = pack_cells(tabled)
        self.assertEqual(run_cells(packed, cycles), bits)
        if lays_out and len(packed[0]) < 150:
            many = len(packed[0])
            width = 1 + many // 9
            spots = place_cells(packed[0], width, 9)
            ways = route_cells(packed[0], spots, width, 9, many)
            fabric = set_up(packed, spots, ways, width, 9)
            self.assertEqual(run_fabric(fabric, cycles), bits)
            self.assertEqual(run_fabric(read_fabric(write_fabric(fabric)), cycles), bits)

    def test_made_ones(self):
        for seed in range(24):
            plan = check(made_machine(seed, stages=1 + seed % 8))
            self.judge(plan, made_roms(seed, plan), 15, 2 + seed % 5)

    def test_200_rows(self):
        rows = ["at 0: let x0 = a; guess a = x0 + 1w3;"]
        for at in range(1, 196):
            if at % 25 == 0:
                rows.append(f"at {at // 25}:")
            rows.append(f"let x{at} = x{at - 1} {'+^-&|'[at % 5]} {at % 8}w3;")
        rows.append("a := x0 == 5w3 ? 0w3 : x0 + 1w3; b := b + x195; f[part(x195, 0, 0)] := c[part(x7, 0, 1)];")
        plan = compile_text("machine m reg a 3; reg b 3; file f 1 3; rom c 2 3; " + "\n".join(rows))
        self.assertEqual(len(plan[3]) + len(plan[4]) + len(plan[5]), 200)
        roms = ((1, 7, 2, 5),)
        told = by_steps(plan, roms, 40)
        done = tuple(record for record in told if record is not None)
        self.assertGreaterEqual(len(done), 40 // 9)
        self.assertEqual(done, steps(plan, start(plan, roms), len(done))[0])
        self.assertIsNone(first_difference(plan, roms, 40))
        self.assertEqual(by_fabric(plan, roms, 5, 40), told)
        self.assertEqual(speed(plan, roms, 40)[0], len(done))
        self.assertEqual(sizes(plan, roms)["stages"], 8)
        self.assertTrue(is_proved(plan, 12))

    def test_nested_texts(self):
        for nest in (("(", ")"), ("~(", ")"), ("a + (", ")"), ("b ? (", ") : a"), ("part(join(", ", a), 0, 7)")):
            text = f"machine m reg a 8; reg b 1; at 0: let x = {nested(nest)}; at 1: a := x + 3w8; b := ~b;"
            plan = compile_text(text)
            told = by_steps(plan, (), 12)
            for found in (by_rows(plan, (), 12), by_gates(plan, (), 12), by_tables(plan, (), 4, 12),
                          by_fabric(plan, (), 4, 12)):
                self.assertEqual(found, told)
            self.assertTrue(is_proved(plan, 4))

    def test_long_codes(self):
        labels = "".join(f"l{at}: " for at in range(200))
        self.assertEqual(len(parse_code(labels + "go;")[0][0]), 200)


class Kinds(unittest.TestCase):
    """What is returned are tuples, integers, strings and None; lists, dicts and truths where the interface says so."""

    def plain(self, thing):
        if type(thing) is tuple:
            for part in thing:
                self.plain(part)
        else:
            self.assertIn(type(thing), (int, str, type(None)))

    def test_plain(self):
        plan = compile_text("machine m reg a 2; file f 1 2; rom c 1 2; at 0: let x = a; let y = c[part(x, 0, 0)];"
                            "at 1: a := x + y; f[part(y, 1, 1)] := x when y == 1w2;")
        roms = ((1, 3),)
        self.plain(by_steps(plan, roms, 6))
        self.plain(speed(plan, roms, 6))
        self.plain(by_fabric(plan, roms, 4, 6))
        self.plain(wrong_roms(plan, 5))
        net = net_of(plan, roms)
        free = list(range(len(net[0])))
        for found in (never(net, 0, free, 3), never(net, 0, [], 1), holds_on(net, 0, 1), holds_on(net, 0, 3),
                      agree(net, free, net, free, 2), agree(net, free[:1], net, free[-1:], 3)):
            self.plain(found)
        tabled = map_tables(net, 4)
        packed = pack_cells(tabled)
        many = len(packed[0])
        spots = place_cells(packed[0], many, 2)
        ways = route_cells(packed[0], spots, many, 2, many)
        fabric = set_up(packed, spots, ways, many, 2)
        for found in (tabled, packed, spots, ways, fabric, read_fabric(write_fabric(fabric)), slowest(fabric),
                      wire_length(packed[0], spots), table_levels(tabled), run_cells(packed, 3), run_fabric(fabric, 3),
                      run_tables(tabled, 3)):
            self.plain(found)
        forms = parse_forms("a = 1w1, x:1; b = y:2;")
        statements = parse_code("e: a 1; b e;")
        for found in (forms, statements, assemble(forms, statements, 2, 2), listed(forms, (0, 3, 2), 2)):
            self.plain(found)
        clauses = ((1, 2), (-1, 2), (-2,))
        proof = ((2,), ())
        self.plain(trimmed(clauses, proof))
        self.plain(read_clauses(print_clauses(2, clauses)))
        self.plain(read_proof(print_proof(proof)))
        for truth in (is_proof(clauses, proof), are_values(clauses, (True, False)), is_never(net, 0, 1),
                      is_proved(plan, 3)):
            self.assertIs(type(truth), bool)


class Kept(unittest.TestCase):
    """Arguments are not changed, also where lists and dicts stand for tuples."""

    def judge(self, function, *arguments):
        kept = copy.deepcopy(arguments)
        found = function(*arguments)
        self.assertEqual(arguments, kept)
        again = function(*arguments)
        self.assertEqual(found, again)

    def test_arguments(self):
        plan = compile_text("machine m reg a 2; rom c 1 2; at 0: let x = a; at 1: a := x + c[part(x, 0, 0)];")
        net = net_of(plan, ((1, 2),))
        packed = pack_cells(map_tables(net, 3))
        many = len(packed[0])
        spots = place_cells(packed[0], many, 1)
        ways = route_cells(packed[0], spots, many, 1, many)
        fabric = set_up(packed, spots, ways, many, 1)
        self.judge(never, net, 0, [0], 2)
        self.judge(holds_on, net, 0, 2)
        self.judge(agree, net, [0], net, [0], 2)
        self.judge(read_fabric, write_fabric(fabric))
        self.judge(is_proof, [[1, 2], [-1], [-2]], [[]])
        self.judge(trimmed, [(1, 2), (-1,), (-2,)], [(2,), ()])
        self.judge(print_code, [(("a",), "go", (1, "a"))])
        self.judge(place_cells, list(packed[0]), many, 2)
        self.judge(route_cells, list(packed[0]), list(spots), many, 1, many)
        self.judge(set_up, [list(packed[0]), list(packed[1])], list(spots), [list(way) for way in ways], many, 1)
        self.judge(assemble_text, plan, "a = x:2;", ["a 1;"])


if __name__ == "__main__":
    unittest.main()
