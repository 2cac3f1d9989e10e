"""Part 4 and point 5.1 word by word: cores are worked out anew whenever they are asked for."""

from stagecut.check import width_of


class Wait(Exception):
    """What must be read is not known."""


def has_reading(core):
    return core[0] in ("reg", "read") or any(has_reading(part) for part in core[1:] if isinstance(part, tuple))


def lets_in(core):
    if core[0] == "let":
        return [core[1]]
    return [at for part in core[1:] if isinstance(part, tuple) for at in lets_in(part)]


def value(plan, core, leaf):
    """The value of a core; leaf gives that of readings (with their addresses) and lets."""
    kind = core[0]
    if kind == "lit":
        return core[1]
    if kind in ("reg", "let"):
        return leaf(kind, core[1], None)
    sides = [value(plan, part, leaf) for part in core[1:] if isinstance(part, tuple)]
    if kind == "read":
        return leaf("read", core[1], sides[0])
    width = width_of(plan, core)
    if kind == "not":
        return 2 ** width - 1 - sides[0]
    if kind == "pick":
        return sides[1] if sides[0] == 1 else sides[2]
    if kind == "wide":
        return sides[0] % 2 ** width
    if kind == "part":
        return sides[0] // 2 ** core[2] % 2 ** width
    if kind == "join":
        return sides[0] * 2 ** width_of(plan, core[2]) + sides[1]
    return operation(core[1], sides[0], sides[1], width)


def operation(sign, one, other, width):
    if sign in ("==", "<"):
        return int(one == other if sign == "==" else one < other)
    if sign in ("<<", ">>"):
        if other >= width:
            return 0
        return one * 2 ** other % 2 ** width if sign == "<<" else one // 2 ** other
    if sign == "&":
        return one & other
    if sign == "|":
        return one | other
    if sign == "^":
        return one ^ other
    return {"+": one + other, "-": one - other, "*": one * other}[sign] % 2 ** width


class Going:
    """An instruction."""

    def __init__(self, number, thread):
        self.number = number
        self.thread = thread
        self.lets = {}
        # What was read for a core, by the core's place.
        self.kept = {}


class Slow:
    """A pipeline for threads."""

    def __init__(self, plan, states):
        self.plan = plan
        self.slots = [None] * plan[0]
        self.regs = [list(state[0]) for state in states]
        self.files = [[list(words) for words in state[1]] for state in states]
        self.fronts = [{row[0]: state[0][row[0]] for row in plan[5]} for state in states]
        self.came = 0
        self.waits = {}
        self.waited = [0] * plan[0]
        self.missed = 0

    def stage_known(self, core, stage):
        if core is None:
            return -1
        if has_reading(core):
            return stage
        return max([self.plan[3][at][2] for at in lets_in(core)] + [0])

    def is_known(self, slot, core, stage):
        known = self.stage_known(core, stage)
        return slot > known or slot == known and not self.waits[slot]

    def told(self, going, place, core):
        """What a known core is, as the instruction has it."""
        if core is None:
            return 1
        if has_reading(core):
            return going.kept[place]
        return value(self.plan, core, lambda _, number, __: going.lets[number])

    def write_row(self, word, number):
        for at, row in enumerate(self.plan[4]):
            if row[0] == word and row[1] == number:
                return at, row
        return None, None

    def read(self, slot, kind, number, address):
        going = self.slots[slot]
        thread = going.thread
        guesses = [row for row in self.plan[5] if kind == "reg" and row[0] == number]
        if guesses:
            _, stage, core = guesses[0]
            for at in range(slot + 1, stage + 1):
                other = self.slots[at]
                if other is not None and other.thread == thread:
                    if not self.is_known(at, core, stage):
                        raise Wait()
                    return self.told(other, ("guess", number), core)
            return self.fronts[thread][number]
        k, row = self.write_row("set" if kind == "reg" else "put", number)
        if row is not None:
            _, _, stage, place, worth, test = row
            for at in range(slot + 1, stage + 1):
                other = self.slots[at]
                if other is None or other.thread != thread:
                    continue
                if test is not None and not self.is_known(at, test, stage):
                    raise Wait()
                if self.told(other, (k, "test"), test) == 0:
                    continue
                if kind == "read":
                    if not self.is_known(at, place, stage):
                        raise Wait()
                    if self.told(other, (k, "address"), place) != address:
                        continue
                if not self.is_known(at, worth, stage):
                    raise Wait()
                return self.told(other, (k, "value"), worth)
        return self.regs[thread][number] if kind == "reg" else self.files[thread][number][address]

    def do_rows(self, slot):
        going = self.slots[slot]
        lets = dict(going.lets)
        kept = dict(going.kept)

        def leaf(kind, number, address):
            return lets[number] if kind == "let" else self.read(slot, kind, number, address)

        for at, row in enumerate(self.plan[3]):
            if row[2] == slot:
                lets[at] = value(self.plan, row[3], leaf)
        for number, stage, core in self.plan[5]:
            if stage == slot:
                kept[("guess", number)] = value(self.plan, core, leaf)
        for k, row in enumerate(self.plan[4]):
            if row[2] == slot:
                for word, core in zip(("address", "value", "test"), row[3:]):
                    if core is not None:
                        kept[(k, word)] = value(self.plan, core, leaf)
        going.lets = lets
        going.kept = kept

    def cycle(self, feed=True):
        """What is done, as triples of thread, number and record; and what was in the slots."""
        last = self.plan[0] - 1
        if feed and self.slots[0] is None:
            self.slots[0] = Going(self.came, self.came % len(self.regs))
            self.came += 1
        seen = tuple(-1 if going is None else going.number for going in self.slots)
        self.waits = {}
        for slot in range(last, -1, -1):
            if self.slots[slot] is not None:
                try:
                    self.do_rows(slot)
                    self.waits[slot] = False
                except Wait:
                    self.waits[slot] = True
                    self.waited[slot] += 1
        goes = {}
        for slot in range(last, -1, -1):
            behind = slot == last or self.slots[slot + 1] is None or goes[slot + 1]
            goes[slot] = self.slots[slot] is not None and not self.waits[slot] and behind
        for slot in range(last, -1, -1):
            if goes[slot] and self.slots[slot] is not None:
                self.end(slot)
        done = []
        slots = [None] * (last + 1)
        for slot, going in enumerate(self.slots):
            if going is not None and not goes[slot]:
                slots[slot] = going
            elif going is not None and slot < last:
                slots[slot + 1] = going
            elif going is not None:
                done.append((going.thread, going.number, self.record(going)))
        self.slots = slots
        return done, seen

    def end(self, slot):
        going = self.slots[slot]
        thread = going.thread
        is_wrong = False
        for k, row in enumerate(self.plan[4]):
            if row[2] == slot and self.told(going, (k, "test"), row[5]):
                worth = self.told(going, (k, "value"), row[4])
                if row[0] == "put":
                    self.files[thread][row[1]][self.told(going, (k, "address"), row[3])] = worth
                    continue
                self.regs[thread][row[1]] = worth
                for number, _, core in self.plan[5]:
                    if number == row[1] and self.told(going, ("guess", number), core) != worth:
                        is_wrong = True
        for number, stage, core in self.plan[5]:
            k, row = self.write_row("set", number)
            if is_wrong and row[2] <= slot:
                self.regs[thread][number] = self.fronts[thread][number] = self.told(going, (k, "value"), row[4])
            elif is_wrong and stage <= slot or not is_wrong and stage == slot:
                self.fronts[thread][number] = self.told(going, ("guess", number), core)
        if is_wrong:
            self.missed += 1
            for at in range(slot):
                if self.slots[at] is not None and self.slots[at].thread == thread:
                    self.slots[at] = None

    def record(self, going):
        writes = []
        for k, row in enumerate(self.plan[4]):
            if self.told(going, (k, "test"), row[5]):
                address = None if row[3] is None else self.told(going, (k, "address"), row[3])
                writes.append((k, address, self.told(going, (k, "value"), row[4])))
        return tuple(going.lets[at] for at in range(len(self.plan[3]))), tuple(writes)

    def state(self, thread=0):
        return tuple(self.regs[thread]), tuple(tuple(words) for words in self.files[thread])
