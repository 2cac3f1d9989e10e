"""Circuits that do what pipelines do."""

from stagecut.rows import Rows
from stagecut.slots import Slots


def build(plan):
    """A circuit that does what the pipeline of a plan does."""
    rows = Rows((), memories_of(plan))
    pipe = add_pipeline(rows, plan)
    return whole_circuit(rows, pipe["nexts"], pipe["stores"], told_rows(pipe))


def record_of(plan, told):
    """The record of what is told in a cycle, None if nothing is done in it."""
    if not told[0]:
        return None
    many = len(plan[3])
    writes = []
    at = many + 1
    for number, row in enumerate(plan[4]):
        parts = 2 if row[0] == "set" else 3
        test, *rest = told[at:at + parts]
        if test:
            writes.append((number, rest[0] if row[0] == "put" else None, rest[-1]))
        at += parts
    return (tuple(told[1:many + 1]), tuple(writes))


def memories_of(plan):
    """The bits and widths of the files and roms of a plan."""
    return [(bits, width) for _, bits, width, _ in plan[2]]


def whole_circuit(rows, nexts, stores, outs):
    """The circuit of rows, with the next rows of its registers by the rows of these."""
    by_register = [None] * len(rows.registers)
    for row, following in nexts.items():
        by_register[rows.rows[row][1]] = following
    return (
        tuple(rows.registers), tuple(rows.memories), tuple(rows.rows), tuple(by_register), tuple(stores), tuple(outs),
    )


def told_rows(done):
    """The rows that tell whether something is done, the lets, and what the rows that write do."""
    found = [done["done"], *done["lets"]]
    for test, address, worth in done["writes"]:
        found.append(test)
        if address is not None:
            found.append(address)
        found.append(worth)
    return found


def add_pipeline(rows, plan):
    """Adds the rows of a pipeline.

    The result tells the rows of whether something is "done", of its "lets" and "writes", the "nexts" by the rows of
    registers, and the "stores".
    """
    slots = Slots(rows, plan)
    told = slots.told[-1]
    writes = []
    for at, row in enumerate(plan[4]):
        address = told[("address", at)] if row[0] == "put" else None
        writes.append((told[("test", at)], address, told[("value", at)]))
    return {
        "done": slots.does[-1], "lets": [told[("let", at)] for at in range(len(plan[3]))], "writes": writes,
        "nexts": Ends(slots).nexts(), "stores": pipeline_stores(slots),
    }


def pipeline_stores(slots):
    """The stores of what is written to files."""
    stores = []
    for number, at in slots.schedule.put_rows.items():
        slot = slots.schedule.stage_of(at)
        told = slots.told[slot]
        test = slots.rows.both(slots.does[slot], told[("test", at)])
        stores.append((number, told[("address", at)], told[("value", at)], test))
    return stores


class Ends:
    """What registers and fronts have behind a cycle, as rows: what the last slots do comes first."""

    def __init__(self, slots):
        self._slots = slots
        self._rows = slots.rows
        self._regs = list(slots.regs)
        self._fronts = {number: slots.fronts[number] for number in slots.fronts}
        for slot in reversed(range(len(slots.valid))):
            self._write(slot)
            self._guess(slot)

    def nexts(self):
        """The next rows of the registers of a pipeline, by the rows of these."""
        slots = self._slots
        found = {row: following for row, following in zip(slots.regs, self._regs)}
        for number, row in slots.fronts.items():
            found[row] = self._fronts[number]
        for slot in range(1, len(slots.valid)):
            found[slots.valid[slot]] = self._rows.any_of(slots.does[slot - 1], slots.stuck[slot])
            for place, row in slots.held[slot].items():
                if self._rows.rows[row][0] == "reg":
                    found[row] = self._rows.pick(slots.stuck[slot], row, slots.told[slot - 1][place])
        return found

    def _write(self, slot):
        """Writes what the rows of a stage write to registers."""
        told = self._slots.told[slot]
        for number, at in self._slots.schedule.set_rows.items():
            if self._slots.schedule.stage_of(at) == slot:
                test = self._rows.both(self._slots.does[slot], told[("test", at)])
                self._regs[number] = self._rows.pick(test, told[("value", at)], self._regs[number])

    def _guess(self, slot):
        """Lets what is guessed in a slot become fronts; takes fronts and registers back if a guess was wrong."""
        told = self._slots.told[slot]
        wrong = self._slots.wrong[slot]
        for number, stage in self._slots.schedule.guessed.items():
            at = self._slots.schedule.set_rows[number]
            if self._slots.schedule.stage_of(at) <= slot:
                worth = told[("value", at)]
                self._regs[number] = self._rows.pick(wrong, worth, self._regs[number])
                self._fronts[number] = self._rows.pick(wrong, worth, self._fronts[number])
            elif stage <= slot:
                test = self._slots.does[slot] if stage == slot else wrong
                self._fronts[number] = self._rows.pick(test, told[("guess", number)], self._fronts[number])
