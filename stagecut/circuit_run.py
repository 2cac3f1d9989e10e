"""What circuits do."""

from stagecut.circuit import widths_of
from stagecut.shapes import parts
from stagecut.words import worked


def run_circuit(circuit, contents, cycles):
    """What is told in each cycle, the memories having these contents at first."""
    widths = widths_of(circuit)
    regs = [first for _, first in circuit[0]]
    memories = [list(words) for words in contents]
    told = []
    for _ in range(cycles):
        worths = row_values(circuit, widths, regs, memories)
        told.append(tuple([worths[row] for row in circuit[5]]))
        for memory, address, worth, test in circuit[4]:
            if worths[test]:
                memories[memory][worths[address]] = worths[worth]
        regs = [worths[row] for row in circuit[3]]
    return tuple(told)


def row_values(circuit, widths, regs, memories):
    """The values of all rows in a cycle."""
    worths = []
    for row in circuit[2]:
        kind = row[0]
        if kind == "lit":
            worths.append(row[1])
        elif kind == "reg":
            worths.append(regs[row[1]])
        elif kind == "look":
            worths.append(memories[row[1]][worths[row[2]]])
        else:
            sides = parts(row)
            worths.append(worked(row, [worths[side] for side in sides], [widths[side] for side in sides]))
    return worths
