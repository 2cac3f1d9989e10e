"""What the instructions of a pipeline do in each stage.

What an instruction works out has a place: ("let", n), ("guess", register), and ("test", k), ("address", k)
and ("value", k) for the row that writes with the number k.
"""

from stagecut.program import program
from stagecut.stages import known_in

ALWAYS = ("lit", 1, 1)


class Schedule:
    """The jobs of the stages of a plan, and what is written and guessed in them."""

    def __init__(self, plan):
        self.plan = plan
        # For each stage pairs of a place and the program that gives what belongs there.
        self.jobs = [[] for _ in range(plan[0])]
        # The stage in which what belongs to a place is known, and the core that tells it.
        self.known = {}
        self.cores = {}
        # The numbers of the rows that write registers and files.
        self.set_rows = {}
        self.put_rows = {}
        # The stages in which registers are guessed.
        self.guessed = {}
        for at, row in enumerate(plan[3]):
            self._keep(("let", at), row[3], row[2])
        for number, stage, core in plan[5]:
            self.guessed[number] = stage
            self._keep(("guess", number), core, known_in(plan, core, stage))
        for at, row in enumerate(plan[4]):
            self._keep_write(at, row)

    def _keep_write(self, at, row):
        """Keeps the jobs of a row that writes."""
        word, number, stage, address, worth, test = row
        if word == "set":
            self.set_rows[number] = at
        else:
            self.put_rows[number] = at
            self._keep(("address", at), address, known_in(self.plan, address, stage))
        self._keep(("value", at), worth, known_in(self.plan, worth, stage))
        # A test that is not there is known as soon as a literal.
        core = ALWAYS if test is None else test
        self._keep(("test", at), core, known_in(self.plan, core, stage))

    def _keep(self, place, core, stage):
        """Keeps the job that works out what belongs to a place, in the stage in which it is known."""
        self.known[place] = stage
        self.cores[place] = core
        self.jobs[stage].append((place, program(self.plan, core)))

    def stage_of(self, at):
        """The stage of a row that writes."""
        return self.plan[4][at][2]

    def record(self, told):
        """The record of an instruction that has worked out all of its places."""
        lets = [told[("let", at)] for at in range(len(self.plan[3]))]
        writes = []
        for at, row in enumerate(self.plan[4]):
            if told[("test", at)]:
                address = told[("address", at)] if row[0] == "put" else None
                writes.append((at, address, told[("value", at)]))
        return (tuple(lets), tuple(writes))
