"""Circuits that do the steps of machines, and circuits that watch whether pipelines do them."""

from stagecut.build import add_pipeline, memories_of, told_rows, whole_circuit
from stagecut.rows import Rows, core_row


class StepRows:
    """What a step reads, as rows: registers, memories by the numbers of files and roms, and the lets so far."""

    def __init__(self, rows, regs, memories):
        self._rows = rows
        self._regs = regs
        self._memories = memories
        self.lets = []

    def reg_row(self, number):
        """The row of what a register has."""
        return self._regs[number]

    def let_row(self, number):
        """The row of what a let has."""
        return self.lets[number]

    def word_row(self, number, address):
        """The row of the word of a file or rom at an address."""
        return self._rows.placed(("look", self._memories[number], address))


def build_step(plan):
    """A circuit that does a step in each cycle."""
    memories = memories_of(plan)
    rows = Rows((), memories)
    done = add_step(rows, plan, list(range(len(memories))), rows.literal(1, 1))
    return whole_circuit(rows, done["nexts"], done["stores"], told_rows(done))


def watch(plan):
    """A circuit of the pipeline and the step, which tells whether something is done, and whether it is not the step."""
    files = [memory for memory, row in zip(memories_of(plan), plan[2]) if not row[3]]
    rows = Rows((), memories_of(plan) + files)
    piped = add_pipeline(rows, plan)
    stepped = add_step(rows, plan, step_memories(plan), piped["done"])
    nexts = {**piped["nexts"], **stepped["nexts"]}
    outs = (piped["done"], rows.both(piped["done"], differs(rows, piped, stepped)))
    return whole_circuit(rows, nexts, piped["stores"] + stepped["stores"], outs)


def watch_contents(plan, contents):
    """What the memories of the watching circuit have at first, from what those of the plan have."""
    files = [tuple(words) for words, row in zip(contents, plan[2]) if not row[3]]
    return (*[tuple(words) for words in contents], *files)


def step_memories(plan):
    """For each file and rom the number of the memory that the step of the watching circuit has for it."""
    found = []
    behind = len(plan[2])
    for number, row in enumerate(plan[2]):
        if row[3]:
            found.append(number)
        else:
            found.append(behind)
            behind += 1
    return found


def add_step(rows, plan, memories, goes):
    """Adds the rows of a step that is done in cycles in which a row is 1; tells what add_pipeline does."""
    regs = [rows.new_register(width, 0) for _, width in plan[1]]
    source = StepRows(rows, regs, memories)
    for row in plan[3]:
        source.lets.append(core_row(rows, row[3], source))
    nexts = {row: row for row in regs}
    stores = []
    writes = []
    for word, number, _, address_core, core, test_core in plan[4]:
        address = None if address_core is None else core_row(rows, address_core, source)
        worth = core_row(rows, core, source)
        test = rows.literal(1, 1) if test_core is None else core_row(rows, test_core, source)
        writes.append((test, address, worth))
        writes_now = rows.both(goes, test)
        if word == "set":
            nexts[regs[number]] = rows.pick(writes_now, worth, regs[number])
        else:
            stores.append((memories[number], address, worth, writes_now))
    return {"done": goes, "lets": source.lets, "writes": writes, "nexts": nexts, "stores": stores}


def differs(rows, one, other):
    """The row that tells whether two things that are done have another let, test, address or value."""
    found = rows.literal(0, 1)
    for let, other_let in zip(one["lets"], other["lets"]):
        found = rows.any_of(found, rows.no(rows.same(let, other_let)))
    for write, other_write in zip(one["writes"], other["writes"]):
        found = rows.any_of(found, rows.no(rows.same(write[0], other_write[0])))
        for part, other_part in zip(write[1:], other_write[1:]):
            if part is not None:
                is_other = rows.no(rows.same(part, other_part))
                found = rows.any_of(found, rows.both(write[0], is_other))
    return found
