"""Circuits without rows and registers that are not needed."""

from stagecut.rows import Rows
from stagecut.shapes import parts, with_parts


class Rewritten:
    """The rows of a circuit made shorter, none of them there twice; and where each old row is now.

    The registers in fixed have their first value in all cycles.
    """

    def __init__(self, circuit, fixed):
        self._rows = Rows(circuit[0], circuit[1])
        self.places = []
        for row in circuit[2]:
            if row[0] == "reg" and row[1] in fixed:
                width, first = circuit[0][row[1]]
                row = ("lit", first, width)
            self.places.append(self._rows.placed(with_parts(row, [self.places[side] for side in parts(row)])))
        self.rows = self._rows.rows


def fold(circuit):
    """A circuit that tells the same with the same memories, without what is not needed."""
    fixed = {}
    found = Rewritten(circuit, fixed)
    while more := found_fixed(circuit, fixed, found):
        for number in more:
            fixed[number] = True
        found = Rewritten(circuit, fixed)
    return needed(renamed(circuit, found))


def found_fixed(circuit, fixed, found):
    """The registers not in fixed whose next row is their own, or the literal of their first value."""
    more = []
    for number, (width, first) in enumerate(circuit[0]):
        row = found.rows[found.places[circuit[3][number]]]
        if number not in fixed and row in (("reg", number), ("lit", first, width)):
            more.append(number)
    return more


def renamed(circuit, found):
    """The circuit with the new rows in the place of the old ones."""
    places = found.places
    stores = []
    for memory, address, worth, test in circuit[4]:
        if found.rows[places[test]] != ("lit", 0, 1):
            stores.append((memory, places[address], places[worth], places[test]))
    nexts = tuple([places[row] for row in circuit[3]])
    outs = tuple([places[row] for row in circuit[5]])
    return (circuit[0], circuit[1], tuple(found.rows), nexts, tuple(stores), outs)


def needed(circuit):
    """The circuit without the rows, registers and stores on which nothing that is told hangs."""
    registers, memories, rows, nexts, stores, outs = circuit
    used = used_rows(circuit)
    row_numbers = numbered([at for at in range(len(rows)) if at in used])
    kept = [rows[at][1] for at in row_numbers if rows[at][0] == "reg"]
    reg_numbers = numbered(sorted(kept))
    new_rows = []
    for at in row_numbers:
        if rows[at][0] == "reg":
            new_rows.append(("reg", reg_numbers[rows[at][1]]))
        else:
            new_rows.append(with_parts(rows[at], [row_numbers[side] for side in parts(rows[at])]))
    looked = {rows[at][1]: True for at in row_numbers if rows[at][0] == "look"}
    new_stores = []
    for memory, address, worth, test in stores:
        if memory in looked:
            new_stores.append((memory, row_numbers[address], row_numbers[worth], row_numbers[test]))
    new_registers = tuple([registers[number] for number in reg_numbers])
    new_nexts = tuple([row_numbers[nexts[number]] for number in reg_numbers])
    new_outs = tuple([row_numbers[row] for row in outs])
    return (new_registers, memories, tuple(new_rows), new_nexts, tuple(new_stores), new_outs)


def numbered(old):
    """The new numbers of old ones that are kept, in order."""
    return {number: at for at, number in enumerate(old)}


def used_rows(circuit):
    """The rows on which something that is told hangs."""
    used = {}
    todo = list(circuit[5])
    while todo:
        at = todo.pop()
        if at not in used:
            used[at] = True
            todo.extend(rows_ahead(circuit, circuit[2][at]))
    return used


def rows_ahead(circuit, row):
    """The rows on which a row hangs in this cycle and the one ahead of it."""
    if row[0] == "reg":
        return [circuit[3][row[1]]]
    found = parts(row)
    if row[0] == "look":
        for store in circuit[4]:
            if store[0] == row[1]:
                found.extend(store[1:])
    return found
