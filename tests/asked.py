"""What clauses should say of nets, looked through for all first values."""

import itertools

from proofs import satisfies
from stagecut.gates import run_net
from stagecut.satisfy import satisfy


def with_firsts(net, free, values):
    """The net with other first values of some latches."""
    firsts = list(net[0])
    for latch, value in zip(free, values):
        firsts[latch] = value
    return (tuple(firsts), *net[1:])


def told_bits(nets, values, cycles):
    """What nets tell, one behind the other; pairs of a net and its latches in free."""
    return [bit for net, free in nets for row in run_net(with_firsts(net, free, values), cycles) for bit in row]


def all_values(many):
    return list(itertools.product((0, 1), repeat=many))


def unit(variable, bit):
    return (variable if bit else -variable,)


def judge_said(test, clauses, nets, cycles, chosen=None):
    """For all values, or those that are chosen: the clauses have values, and only with the bits that nets tell."""
    many = len(nets[0][1])
    for values in all_values(many) if chosen is None else chosen:
        bits = told_bits(nets, values, cycles)
        fixed = list(clauses) + [unit(1 + at, bit) for at, bit in enumerate(values)]
        variables = max([many + len(bits)] + [abs(literal) for clause in clauses for literal in clause])
        found, _ = satisfy(variables, fixed)
        test.assertIsNotNone(found)
        test.assertTrue(satisfies(fixed, found))
        test.assertEqual([int(bit) for bit in found[many:many + len(bits)]], bits)
        if bits:
            other = tuple(unit(1 + many + at, not bit)[0] for at, bit in enumerate(bits))
            test.assertIsNone(satisfy(variables, fixed + [other])[0])
