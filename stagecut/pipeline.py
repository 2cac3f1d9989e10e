"""Pipelines."""

from stagecut.flow import Flow


class Pipeline:
    """A pipeline of a plan, from a state on."""

    def __init__(self, plan, state):
        self._flow = Flow(plan, (state,))
        self.waited = [0] * plan[0]
        self.missed = 0

    def cycle(self, *, feed=True):
        """Does a cycle; gives the record of what is done in it in a tuple, or an empty one."""
        if feed:
            self._flow.let_in()
        done = self._flow.work()
        self.waited = list(self._flow.waited)
        self.missed = self._flow.missed
        return tuple([self._flow.record(held) for held in done])

    def is_empty(self):
        """True if no instruction is on its way."""
        return self._flow.is_empty()

    def state(self):
        """The registers and files."""
        return self._flow.state(0)


def run_pipeline(plan, state, cycles):
    """What is done, as pairs of a cycle and a record."""
    pipeline = Pipeline(plan, state)
    done = []
    for at in range(cycles):
        done.extend([(at, record) for record in pipeline.cycle()])
    return tuple(done)


def drained(plan, state, many):
    """Lets instructions in until so many are done, then none; the records of all and the state at the end."""
    pipeline = Pipeline(plan, state)
    done = []
    while len(done) < many:
        done.extend(pipeline.cycle())
    while not pipeline.is_empty():
        done.extend(pipeline.cycle(feed=False))
    return tuple(done), pipeline.state()
