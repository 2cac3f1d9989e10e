"""Nets of gates: (firsts, ands, nexts, outs)."""

from stagecut.circuit import is_below, is_tuple


def is_net(thing):
    """True if a thing of any kind is a net."""
    if not is_tuple(thing, 4) or not all([type(part) is tuple for part in thing]):
        return False
    firsts, ands, nexts, outs = thing
    latches = len(firsts)
    if len(nexts) != latches or not all([is_below(first, 2) for first in firsts]):
        return False
    for at, part in enumerate(ands):
        if not is_tuple(part, 2) or not all([is_below(side, 2 * (1 + latches + at)) for side in part]):
            return False
    return all([is_below(literal, 2 * (1 + latches + len(ands))) for literal in nexts + outs])


def run_net(net, cycles):
    """The bits that are told in each cycle."""
    state = net[0]
    found = []
    for _ in range(cycles):
        told, state = cycle_of(net, state)
        found.append(told)
    return tuple(found)


def cycle_of(net, state):
    """What is told in a cycle, and what the latches have behind it."""
    worths = node_values(net, state)
    told = tuple([literal_value(worths, literal) for literal in net[3]])
    return told, tuple([literal_value(worths, literal) for literal in net[2]])


def node_values(net, state):
    """The values of all nodes in a cycle."""
    worths = [0, *state]
    for one, other in net[1]:
        worths.append((worths[one >> 1] ^ (one & 1)) & (worths[other >> 1] ^ (other & 1)))
    return worths


def literal_value(worths, literal):
    """The value of a literal, from those of the nodes."""
    return worths[literal >> 1] ^ (literal & 1)
