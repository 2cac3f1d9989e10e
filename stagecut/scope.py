"""What the rows of a machine ahead of a place have named, and the plan that they make."""

from stagecut.errors import Unfit


class Scope:
    """The names so far, the rows of the plan so far, and the place that is looked at."""

    def __init__(self):
        self.stage = -1
        self.index = 0
        self.regs = []
        self.files = []
        self.lets = []
        self.writes = []
        self.guesses = []
        # For each row the place (stage, index), and its word and number in the plan.
        self.rows = []
        self._named = {}

    def unfit(self, word):
        """Tells that something at the place that is looked at does not fit."""
        raise Unfit(self.stage, self.index, word)

    def must_be_new(self, name):
        """Makes sure that nothing has a name so far."""
        if name in self._named:
            self.unfit("twice")

    def name_new(self, name, kind, number):
        """Names something."""
        self.must_be_new(name)
        self._named[name] = (kind, number)

    def named(self, name, kinds):
        """The kind and number of something that must be of one of these kinds."""
        if name not in self._named:
            self.unfit("unknown")
        kind, number = self._named[name]
        if kind not in kinds:
            self.unfit("kind")
        return kind, number

    def row_done(self, word, number):
        """Keeps which row of the plan stands at the place that is looked at."""
        self.rows.append((self.stage, self.index, word, number))

    def whole_plan(self, stages):
        """The plan with so many stages."""
        return (
            stages, tuple(self.regs), tuple(self.files), tuple(self.lets), tuple(self.writes), tuple(self.guesses),
        )
