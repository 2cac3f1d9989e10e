"""Cells: (reads, bits, first), tables with or without a latch behind them."""

from stagecut.tables import table_place

# The bits of a table that hands on what it reads, and of one that turns it.
SAME = (0, 1)
TURNED = (1, 0)


def pack_cells(tabled):
    """The cells that do what a net of tables does, and the numbers of those that are told."""
    firsts, _, nexts, outs = tabled
    numbers = {2 + 2 * at: at for at in range(len(firsts))}
    others = [literal for literal in needed_literals(tabled) if literal not in numbers]
    for literal in others:
        numbers[literal] = len(numbers)
    cells = []
    for literal, first in list(zip(nexts, firsts)) + [(literal, None) for literal in others]:
        leaves, bits = literal_table(tabled, literal)
        cells.append((tuple([numbers[2 * leaf] for leaf in leaves]), bits, first))
    return tuple(cells), tuple([numbers[literal] for literal in outs])


def needed_literals(tabled):
    """The literals that are told or on which tables hang that are needed, in ascending order."""
    found = {literal: True for literal in tabled[3]}
    for literal in tabled[2]:
        for leaf in literal_table(tabled, literal)[0]:
            found[2 * leaf] = True
    ahead = 1 + len(tabled[0])
    for node in reversed(range(ahead + len(tabled[1]))):
        for literal in (2 * node, 2 * node + 1):
            if literal in found and node >= ahead:
                for leaf in literal_table(tabled, literal)[0]:
                    found[2 * leaf] = True
    return sorted(found)


def literal_table(tabled, literal):
    """The leaves and bits of a table that has the value of a literal; no leaf is the constant."""
    node = literal >> 1
    if node == 0:
        return (), (literal & 1,)
    if node <= len(tabled[0]):
        return (node,), TURNED if literal & 1 else SAME
    leaves, bits = tabled[1][node - 1 - len(tabled[0])]
    if leaves and leaves[0] == 0:
        leaves = leaves[1:]
        bits = bits[::2]
    return leaves, tuple([bit ^ (literal & 1) for bit in bits])


def run_cells(packed, cycles):
    """The bits that cells tell in each cycle."""
    cells, outs = packed
    order = table_order(cells)
    latches = [at for at, cell in enumerate(cells) if cell[2] is not None]
    worths = [0 if first is None else first for _, _, first in cells]
    found = []
    for _ in range(cycles):
        for at in order:
            worths[at] = table_value(worths, cells[at])
        found.append(tuple([worths[at] for at in outs]))
        behind = [table_value(worths, cells[at]) for at in latches]
        for at, worth in zip(latches, behind):
            worths[at] = worth
    return tuple(found)


def table_value(worths, cell):
    """What the table of a cell has, from the values of all cells."""
    return cell[1][table_place(worths, cell[0])]


def table_order(cells):
    """The cells without a latch, each behind those that it reads."""
    order = []
    seen = {}
    # Behind a cell, with True, when all that it reads was looked at.
    todo = [(at, False) for at in range(len(cells))]
    while todo:
        at, is_left = todo.pop()
        if is_left:
            order.append(at)
        elif at not in seen and cells[at][2] is None:
            seen[at] = True
            todo.append((at, True))
            todo.extend([(read, False) for read in cells[at][0]])
    return order
