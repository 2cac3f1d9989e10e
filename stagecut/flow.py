"""Instructions of one or several threads on their way through the slots of a pipeline."""

from stagecut.errors import CutError
from stagecut.program import run_program
from stagecut.schedule import Schedule


class MustWait(CutError):
    """Something that an instruction reads is not known so far."""


class Instruction:
    """An instruction on its way, and what it has worked out so far."""

    def __init__(self, number, thread):
        self.number = number
        self.thread = thread
        self.told = {}


class Thread:
    """The registers and files of a thread, and what its guessed registers are taken to have."""

    def __init__(self, state, guessed):
        self.regs = list(state[0])
        self.files = [list(words) for words in state[1]]
        self.fronts = {number: self.regs[number] for number in guessed}

    def state(self):
        """Registers and files as a state."""
        return (tuple(self.regs), tuple([tuple(words) for words in self.files]))


class Reading:
    """What the instruction in a slot reads, and what it has worked out with this cycle."""

    def __init__(self, flow, slot, told):
        self._flow = flow
        self._slot = slot
        self.told = {place: told[place] for place in told}

    def reg_value(self, number):
        """What a register is taken to have."""
        return self._flow.register_read(self._slot, number)

    def let_value(self, number):
        """What a let has."""
        return self.told[("let", number)]

    def word_at(self, number, address):
        """What the word of a file or rom at an address is taken to be."""
        return self._flow.word_read(self._slot, number, address)


class Flow:
    """The slots of a pipeline, whose instructions are those of its threads in turn."""

    def __init__(self, plan, states):
        self._schedule = Schedule(plan)
        self._threads = [Thread(state, self._schedule.guessed) for state in states]
        self._slots = [None] * plan[0]
        self._waits = [False] * plan[0]
        self._came = 0
        self.waited = [0] * plan[0]
        self.missed = 0

    def let_in(self):
        """Lets an instruction of the next thread into slot 0 if that is empty."""
        if self._slots[0] is None:
            thread = self._threads[self._came % len(self._threads)]
            self._slots[0] = Instruction(self._came, thread)
            self._came += 1

    def numbers(self):
        """The numbers of the instructions in the slots, -1 for an empty one."""
        return tuple([-1 if held is None else held.number for held in self._slots])

    def is_empty(self):
        """True if no instruction is on its way."""
        return all(held is None for held in self._slots)

    def state(self, thread):
        """The state of the thread with a number."""
        return self._threads[thread].state()

    def thread_of(self, held):
        """The number of the thread of an instruction."""
        return held.number % len(self._threads)

    def record(self, held):
        """The record of an instruction that is done."""
        return self._schedule.record(held.told)

    def work(self):
        """Does a cycle behind the letting in; gives the list of what is done in it."""
        for slot in reversed(range(len(self._slots))):
            self._waits[slot] = self._slots[slot] is not None and not self._does_rows(slot)
            if self._waits[slot]:
                self.waited[slot] += 1
        goes = self._going()
        for slot in reversed(range(len(self._slots))):
            if goes[slot] and self._slots[slot] is not None:
                self._end_rows(slot)
        return self._move(goes)

    def register_read(self, slot, number):
        """What an instruction in a slot reads from a register."""
        thread = self._slots[slot].thread
        if number in self._schedule.guessed:
            return self._guess_read(slot, number)
        found = None
        if number in self._schedule.set_rows:
            found = self._passed(slot, self._schedule.set_rows[number], None)
        return thread.regs[number] if found is None else found

    def word_read(self, slot, number, address):
        """What an instruction in a slot reads from a file or rom."""
        thread = self._slots[slot].thread
        found = None
        if number in self._schedule.put_rows:
            found = self._passed(slot, self._schedule.put_rows[number], address)
        return thread.files[number][address] if found is None else found

    def _guess_read(self, slot, number):
        """What an instruction in a slot takes a guessed register to have."""
        thread = self._slots[slot].thread
        for other in range(slot + 1, self._schedule.guessed[number] + 1):
            if self._holds(other, thread):
                return self._told(other, ("guess", number))
        return thread.fronts[number]

    def _passed(self, slot, at, address):
        """What instructions further on write by a row to where it is read, None if none of them does."""
        thread = self._slots[slot].thread
        for other in range(slot + 1, self._schedule.stage_of(at) + 1):
            if not self._holds(other, thread) or not self._told(other, ("test", at)):
                continue
            if address is None or self._told(other, ("address", at)) == address:
                return self._told(other, ("value", at))
        return None

    def _holds(self, slot, thread):
        """True if an instruction of a thread is in a slot."""
        return self._slots[slot] is not None and self._slots[slot].thread == thread

    def _told(self, slot, place):
        """What the instruction in a slot has worked out for a place, if it is known."""
        stage = self._schedule.known[place]
        if slot < stage or (slot == stage and self._waits[slot]):
            raise MustWait()
        return self._slots[slot].told[place]

    def _does_rows(self, slot):
        """Does what the instruction in a slot does there; False if it must wait, and does nothing."""
        held = self._slots[slot]
        reading = Reading(self, slot, held.told)
        try:
            for place, rows in self._schedule.jobs[slot]:
                reading.told[place] = run_program(rows, reading)
        except MustWait:
            return False
        held.told = reading.told
        return True

    def _going(self):
        """For each slot whether there is an instruction in it that goes on."""
        goes = [False] * len(self._slots)
        is_free = True
        for slot in reversed(range(len(self._slots))):
            goes[slot] = self._slots[slot] is not None and not self._waits[slot] and is_free
            is_free = self._slots[slot] is None or goes[slot]
        return goes

    def _end_rows(self, slot):
        """Does what an instruction that goes on does at the end of a cycle."""
        held = self._slots[slot]
        self._write(held, slot)
        if self._is_wrong(held, slot):
            self.missed += 1
            self._take_back(held, slot)
            return
        thread = held.thread
        for number, stage in self._schedule.guessed.items():
            if stage == slot:
                thread.fronts[number] = held.told[("guess", number)]

    def _write(self, held, slot):
        """Writes what the rows of a stage write."""
        thread = held.thread
        for at, row in enumerate(self._schedule.plan[4]):
            if row[2] != slot or not held.told[("test", at)]:
                continue
            if row[0] == "set":
                thread.regs[row[1]] = held.told[("value", at)]
            else:
                address = held.told[("address", at)]
                thread.files[row[1]][address] = held.told[("value", at)]

    def _is_wrong(self, held, slot):
        """True if a guessed register is written in a stage with something else than was guessed."""
        for number in self._schedule.guessed:
            at = self._schedule.set_rows[number]
            if self._schedule.stage_of(at) == slot and held.told[("value", at)] != held.told[("guess", number)]:
                return True
        return False

    def _take_back(self, held, slot):
        """Makes the instructions of the thread behind an instruction vanish, and all that they guessed and wrote."""
        thread = held.thread
        for other in range(slot):
            if self._holds(other, thread):
                self._slots[other] = None
        for number, stage in self._schedule.guessed.items():
            at = self._schedule.set_rows[number]
            if self._schedule.stage_of(at) <= slot:
                thread.regs[number] = held.told[("value", at)]
                thread.fronts[number] = held.told[("value", at)]
            elif stage <= slot:
                thread.fronts[number] = held.told[("guess", number)]

    def _move(self, goes):
        """Moves the instructions that go on, and gives those that are done."""
        done = []
        moved = [None] * len(self._slots)
        for slot, held in enumerate(self._slots):
            if held is None:
                continue
            if not goes[slot]:
                moved[slot] = held
            elif slot + 1 < len(moved):
                moved[slot + 1] = held
            else:
                done.append(held)
        self._slots = moved
        return done
