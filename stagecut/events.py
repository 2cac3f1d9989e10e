"""Nets run by what changes in them."""

from stagecut.spread import Spread


def run_events(net, cycles):
    """What is told in each cycle, how many nodes turned behind these cycles, and how many ands were worked out."""
    spread = Spread(net, net[0], lambda one, other: one & other)
    told = []
    for _ in range(cycles):
        told.append(tuple([spread.worth_of(literal) for literal in net[3]]))
        spread.change({1 + at: spread.worth_of(literal) for at, literal in enumerate(net[2])})
    return tuple(told), spread.turns, spread.worked_out
