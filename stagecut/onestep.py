"""Machines as one step."""

from stagecut.program import program, run_program


class Still:
    """A state that does not change while a step is worked out, and the lets of the step so far."""

    def __init__(self, state):
        self._regs, self._files = state
        self.lets = []

    def reg_value(self, number):
        """What a register has."""
        return self._regs[number]

    def let_value(self, number):
        """What a let has."""
        return self.lets[number]

    def word_at(self, number, address):
        """The word of a file or rom at an address."""
        return self._files[number][address]


def start(plan, roms):
    """The first state, with these words of the roms."""
    files = []
    given = 0
    for row in plan[2]:
        if row[3]:
            files.append(tuple(roms[given]))
            given += 1
        else:
            files.append((0,) * (1 << row[1]))
    return ((0,) * len(plan[1]), tuple(files))


def step(plan, state):
    """The record of a step, and the state behind it."""
    return step_by(plan, step_programs(plan), state)


def steps(plan, state, many):
    """The records of many steps, and the state behind them."""
    programs = step_programs(plan)
    records = []
    for _ in range(many):
        record, state = step_by(plan, programs, state)
        records.append(record)
    return tuple(records), state


def step_programs(plan):
    """The lets of a plan, and the addresses, values and tests of its rows that write, to be worked out."""
    lets = [program(plan, row[3]) for row in plan[3]]
    writes = []
    for row in plan[4]:
        writes.append([None if core is None else program(plan, core) for core in row[3:]])
    return lets, writes


def step_by(plan, programs, state):
    """What step gives, with the programs of the plan."""
    lets, writes = programs
    still = Still(state)
    for rows in lets:
        still.lets.append(run_program(rows, still))
    told = []
    for at, (address, worth, test) in enumerate(writes):
        if test is None or run_program(test, still):
            place = None if address is None else run_program(address, still)
            told.append((at, place, run_program(worth, still)))
    return (tuple(still.lets), tuple(told)), written(plan, state, told)


def written(plan, state, told):
    """The state behind what rows write."""
    regs = list(state[0])
    files = [list(words) for words in state[1]]
    for at, address, worth in told:
        word, number = plan[4][at][:2]
        if word == "set":
            regs[number] = worth
        else:
            files[number][address] = worth
    return (tuple(regs), tuple([tuple(words) for words in files]))
