"""Nets of tables: (firsts, tables, nexts, outs), with tables (leaves, bits)."""

from stagecut.cuts import Cuts, cut_table
from stagecut.frames import node_places, place_of
from stagecut.gates import literal_value
from stagecut.wires import Wires


def map_tables(net, size):
    """A net of tables of at most so many leaves that does what a net does."""
    wires = Wires()
    places = node_places(wires, net, [wires.new_leaf() for _ in net[0]])
    nexts = [place_of(places, literal) for literal in net[2]]
    outs = [place_of(places, literal) for literal in net[3]]
    found = chosen_tables(wires.nodes, nexts + outs, size)
    # The constant and the latches have the numbers that they had.
    numbers = {node: node for node in range(1 + len(net[0]))}
    tables = []
    for node in sorted(found):
        numbers[node] = len(numbers)
        leaves, bits = found[node]
        tables.append((tuple([numbers[leaf] for leaf in leaves]), bits))
    ends = [tuple([2 * numbers[literal >> 1] + (literal & 1) for literal in part]) for part in (nexts, outs)]
    return (tuple(net[0]), tuple(tables), ends[0], ends[1])


def chosen_tables(nodes, literals, size):
    """The tables by which literals can be worked out, by the nodes that they stand for."""
    # An and of two leaves needs as many at least.
    cuts = Cuts(nodes, max(2, size))
    # At which level a node must be there at the latest.
    due = {}
    deepest = max([cuts.level(literal >> 1) for literal in literals], default=0)
    for literal in literals:
        due[literal >> 1] = deepest
    found = {}
    for node in reversed(range(len(nodes))):
        if node in due and nodes[node] is not None:
            found[node] = cut_table(nodes, node, cuts.best_leaves(node, due[node]))
            for leaf in found[node][0]:
                due[leaf] = min(due.get(leaf, deepest), due[node] - 1)
    return found


def run_tables(tabled, cycles):
    """The bits that a net of tables tells in each cycle."""
    state = tabled[0]
    found = []
    for _ in range(cycles):
        worths = [0, *state]
        for leaves, bits in tabled[1]:
            worths.append(bits[table_place(worths, leaves)])
        found.append(tuple([literal_value(worths, literal) for literal in tabled[3]]))
        state = [literal_value(worths, literal) for literal in tabled[2]]
    return tuple(found)


def table_place(worths, reads):
    """The place among the bits of a table that the values of what it reads tell, the first one being the low bit."""
    at = 0
    for read in reversed(reads):
        at = 2 * at + worths[read]
    return at


def table_levels(tabled):
    """The greatest level of the nodes of the next and told literals, 0 if there are none."""
    found = [0] * (1 + len(tabled[0]))
    for leaves, _ in tabled[1]:
        found.append(1 + max([found[leaf] for leaf in leaves], default=0))
    return max([found[literal >> 1] for literal in tabled[2] + tabled[3]], default=0)
