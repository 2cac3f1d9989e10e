"""Circuits of word rows: (registers, memories, rows, nexts, stores, outs)."""

from stagecut.shapes import parts
from stagecut.words import MOST_BITS, MOST_WIDTH, fitted_width, mask

ROW_LENGTHS = {
    "lit": 3, "reg": 2, "look": 3, "not": 2, "op": 4, "pick": 4, "wide": 3, "part": 4, "join": 3,
}


def is_circuit(thing):
    """True if a thing of any kind is a circuit."""
    if not is_tuple(thing, 6) or not all([type(part) is tuple for part in thing]):
        return False
    registers, memories, rows, nexts, stores, outs = thing
    if not all([is_register(part) for part in registers]) or not all([is_memory(part) for part in memories]):
        return False
    widths = []
    for row in rows:
        width = row_width(thing, widths, row)
        if width == 0:
            return False
        widths.append(width)
    return are_nexts(registers, widths, nexts) and are_ends(memories, widths, stores, outs)


def widths_of(circuit):
    """The list of the widths of the rows of a circuit."""
    widths = []
    for row in circuit[2]:
        widths.append(known_row_width(circuit, widths, row))
    return widths


def is_tuple(thing, many):
    """True if a thing is a tuple with so many parts."""
    return type(thing) is tuple and len(thing) == many


def is_below(thing, limit):
    """True if a thing is an integer from 0 on that is below a limit."""
    return type(thing) is int and 0 <= thing < limit


def is_width(thing):
    """True if a thing is the width of a word."""
    return is_below(thing, MOST_WIDTH + 1) and thing > 0


def is_register(thing):
    """True if a thing is a pair of a width and a first value."""
    return is_tuple(thing, 2) and is_width(thing[0]) and is_below(thing[1], mask(thing[0]) + 1)


def is_memory(thing):
    """True if a thing is a pair of the bits of the addresses and the width of the words."""
    return is_tuple(thing, 2) and is_below(thing[0], MOST_BITS + 1) and thing[0] > 0 and is_width(thing[1])


def row_width(circuit, widths, row):
    """The width of a row behind rows with these widths, 0 if it cannot stand there."""
    if type(row) is not tuple or not row or type(row[0]) is not str or ROW_LENGTHS.get(row[0]) != len(row):
        return 0
    kind = row[0]
    if kind == "lit":
        return row[2] if is_width(row[2]) and is_below(row[1], mask(row[2]) + 1) else 0
    if kind == "reg":
        return known_row_width(circuit, widths, row) if is_below(row[1], len(circuit[0])) else 0
    if not all([is_below(part, len(widths)) for part in parts(row)]):
        return 0
    if kind == "look":
        if not is_below(row[1], len(circuit[1])) or widths[row[2]] != circuit[1][row[1]][0]:
            return 0
    if kind in ("wide", "part") and not all([type(part) is int for part in row[2:]]):
        return 0
    return known_row_width(circuit, widths, row)


def known_row_width(circuit, widths, row):
    """The width of a row whose numbers are those of what is there; 0 if its parts do not fit."""
    kind = row[0]
    if kind == "lit":
        return row[2]
    if kind == "reg":
        return circuit[0][row[1]][0]
    if kind == "look":
        return circuit[1][row[1]][1]
    return fitted_width(row, [widths[part] for part in parts(row)])


def are_nexts(registers, widths, nexts):
    """True if each register has a next row of its width."""
    if len(nexts) != len(registers):
        return False
    for (width, _), row in zip(registers, nexts):
        if not is_below(row, len(widths)) or widths[row] != width:
            return False
    return True


def are_ends(memories, widths, stores, outs):
    """True if what is stored and told are rows that fit."""
    if not all([is_store(memories, widths, store) for store in stores]):
        return False
    return all([is_below(row, len(widths)) for row in outs])


def is_store(memories, widths, thing):
    """True if a thing is a store whose rows have the widths that they should."""
    if not is_tuple(thing, 4) or not is_below(thing[0], len(memories)):
        return False
    if not all([is_below(row, len(widths)) for row in thing[1:]]):
        return False
    bits, width = memories[thing[0]]
    return [widths[row] for row in thing[1:]] == [bits, width, 1]
