"""The rows of a circuit that does what a pipeline does."""

from stagecut.check import width_of
from stagecut.rows import core_row
from stagecut.schedule import Schedule


class SlotRows:
    """What the instruction in a slot reads and works out, as rows, and the row that tells whether it must wait."""

    def __init__(self, slots, slot, told, must):
        self._slots = slots
        self._slot = slot
        self.told = told
        self.must = must

    def reg_row(self, number):
        """The row of what a register is taken to have."""
        return self._read(self._slots.register_read(self._slot, number))

    def let_row(self, number):
        """The row of what a let has."""
        return self.told[("let", number)]

    def word_row(self, number, address):
        """The row of what the word of a file or rom at an address is taken to be."""
        return self._read(self._slots.word_read(self._slot, number, address))

    def _read(self, found):
        """The row of what is read; the other row tells whether one must wait for it."""
        self.must = self._slots.rows.any_of(self.must, found[1])
        return found[0]


class Slots:
    """The slots of a pipeline as registers and rows.

    The lists have a row for each slot: whether an instruction is in it, must wait, stays there, goes on, and has
    guessed wrong; and for each slot the rows of what the instruction had, and has, worked out.
    """

    def __init__(self, rows, plan):
        many = plan[0]
        self.rows = rows
        self.schedule = Schedule(plan)
        self._zero = rows.literal(0, 1)
        self._one = rows.literal(1, 1)
        self.regs = [rows.new_register(width, 0) for _, width in plan[1]]
        self.fronts = {number: rows.new_register(plan[1][number][1], 0) for number in self.schedule.guessed}
        self.valid = [self._one] + [rows.new_register(1, 0) for _ in range(many - 1)]
        self.must = [self._zero] * many
        self.stuck = [self._zero] * many
        self.does = [self._zero] * many
        self.wrong = [self._zero] * many
        self.held = [self._held_ahead(slot) for slot in range(many)]
        self.told = [{} for _ in range(many)]
        for slot in reversed(range(many)):
            self._work(slot)
        self._end()

    def _held_ahead(self, slot):
        """The rows of what an instruction has worked out ahead of a slot."""
        found = {}
        for place, core in self.schedule.cores.items():
            if self.schedule.known[place] < slot:
                width = width_of(self.schedule.plan, core)
                found[place] = self.rows.placed(core) if core[0] == "lit" else self.rows.new_register(width, 0)
        return found

    def _work(self, slot):
        """Makes the rows of what is done in a slot, which reads what the later ones have."""
        held = self.held[slot]
        reading = SlotRows(self, slot, {place: held[place] for place in held}, self._zero)
        for place, _ in self.schedule.jobs[slot]:
            reading.told[place] = core_row(self.rows, self.schedule.cores[place], reading)
        self.told[slot] = reading.told
        self.must[slot] = reading.must

    def _end(self):
        """Makes the rows that tell who goes on, whose guess was wrong, and who vanishes."""
        rows = self.rows
        is_blocked = self._zero
        # 0 if the guess of an instruction further on was found to be wrong.
        lives = self._one
        for slot in reversed(range(len(self.valid))):
            halts = rows.any_of(self.must[slot], is_blocked)
            is_blocked = rows.both(self.valid[slot], halts)
            goes = rows.both(self.valid[slot], rows.no(halts))
            self.stuck[slot] = rows.both(is_blocked, lives)
            self.does[slot] = rows.both(goes, lives)
            self.wrong[slot] = rows.both(self.does[slot], self._misses(slot))
            lives = rows.both(lives, rows.no(self.wrong[slot]))

    def _misses(self, slot):
        """The row that tells whether what is written in a slot is something else than was guessed."""
        found = self._zero
        told = self.told[slot]
        for number in self.schedule.guessed:
            at = self.schedule.set_rows[number]
            if self.schedule.stage_of(at) == slot:
                is_right = self.rows.same(told[("value", at)], told[("guess", number)])
                found = self.rows.any_of(found, self.rows.no(is_right))
        return found

    def register_read(self, slot, number):
        """What an instruction in a slot reads from a register, and whether it must wait for it."""
        if number in self.schedule.guessed:
            return self._guess_read(slot, number)
        if number in self.schedule.set_rows:
            return self._passed(slot, self.schedule.set_rows[number], None, self.regs[number])
        return self.regs[number], self._zero

    def word_read(self, slot, number, address):
        """What an instruction in a slot reads from a file or rom, and whether it must wait for it."""
        found = self.rows.placed(("look", number, address))
        if number in self.schedule.put_rows:
            return self._passed(slot, self.schedule.put_rows[number], address, found)
        return found, self._zero

    def _guess_read(self, slot, number):
        """What an instruction in a slot takes a guessed register to have, and whether it must wait for it."""
        found = self.fronts[number]
        must = self._zero
        for other in reversed(range(slot + 1, self.schedule.guessed[number] + 1)):
            worth, unknown = self._known(other, ("guess", number), found)
            found = self.rows.pick(self.valid[other], worth, found)
            must = self.rows.pick(self.valid[other], unknown, must)
        return found, must

    def _passed(self, slot, at, address, found):
        """What is read of something that a row writes, if it has found so far, and whether one must wait for it."""
        rows = self.rows
        must = self._zero
        for other in reversed(range(slot + 1, self.schedule.stage_of(at) + 1)):
            test, no_test = self._known(other, ("test", at), self._zero)
            is_there, no_place = self._is_there(other, at, address)
            worth, no_worth = self._known(other, ("value", at), found)
            meets = rows.both(rows.both(self.valid[other], test), is_there)
            asks = rows.any_of(no_place, rows.both(is_there, no_worth))
            asks = rows.any_of(no_test, rows.both(test, asks))
            found = rows.pick(meets, worth, found)
            must = rows.any_of(rows.both(self.valid[other], asks), rows.both(rows.no(meets), must))
        return found, must

    def _is_there(self, slot, at, address):
        """Whether the instruction in a slot writes to an address by a row, and whether that is not known."""
        if address is None:
            return self._one, self._zero
        place, unknown = self._known(slot, ("address", at), address)
        return self.rows.same(place, address), unknown

    def _known(self, slot, place, otherwise):
        """What the instruction in a slot has for a place, or otherwise; and whether that is not known."""
        if slot < self.schedule.known[place]:
            return otherwise, self._one
        unknown = self.must[slot] if slot == self.schedule.known[place] else self._zero
        return self.told[slot][place], unknown
