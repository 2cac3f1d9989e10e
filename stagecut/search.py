"""Values that satisfy clauses, looked for by trying values and learning clauses from what clashes."""

from heapq import heapify, heappop, heappush

from stagecut.watching import Watching

# After so many clashes, times what luby tells, the search begins anew with what it has learned.
CLASHES_A_RUN = 100
# How many learned clauses are kept at first, and how many more each time when some are dropped.
KEPT_AT_FIRST = 2000
KEPT_MORE = 500
# Clauses over so few levels are never dropped.
FEW_LEVELS = 2
# What a variable that clashes gets at first, and how great it becomes before all are made smaller.
FIRST_BUMP = 1024
GREAT_BUMP = 1000000000000000000
SMALLER = 40
# What stands in the place of that for a variable that is not in the queue.
NOT_QUEUED = -1


class Search(Watching):
    """Clauses over the variables 1 to many, the values so far, and the clauses that were learned."""

    def __init__(self, many, clauses):
        Watching.__init__(self)
        # There is a variable 0 that is never named.
        self._make_variables(many + 1)
        # By variable which literal held last, and how much it has clashed; and the queue by that.
        self._last = [2 * at + 1 for at in range(many + 1)]
        self._clashed = [0] * (many + 1)
        self._bump = FIRST_BUMP
        self._queued = [NOT_QUEUED] * (many + 1)
        self._queue = []
        # The variables that are tried.
        self._aims = {}
        self.aim_at({at: True for at in range(1, many + 1)})
        # What was learned and is kept, as triples of how many levels it is over, its length and its number.
        self._learned = []
        self._kept = KEPT_AT_FIRST
        for clause in clauses:
            self._add(inner_clause(clause))
        # How many clauses were given; those behind them were learned, or shown to follow. For each of these the
        # clauses by which it follows, and variables that have the values by which it does without a try.
        self._given = len(self._clauses)
        self._causes = []
        # The cause of what was found out last.
        self._numbers = []
        self._settled = []

    def is_lost(self):
        """True if there are no values."""
        return self._lost_by is not None

    def holds(self, at):
        """True if a variable has the value True."""
        return self._held[2 * at] > 0

    def is_open(self, at):
        """True if a variable has no value."""
        return self._held[2 * at] == 0

    def aim_at(self, variables):
        """Lets only these variables be tried from now on."""
        self._return_to(0)
        for at in self._aims:
            self._queued[at] = NOT_QUEUED
        self._aims = variables
        self._fill_queue()

    def is_found(self):
        """Looks for values; True if they are found, False if there are none."""
        runs = 1
        while not self.is_lost():
            if self.found_with((), CLASHES_A_RUN * luby(runs)):
                return True
            runs += 1
        return False

    def found_with(self, clause, clashes):
        """Looks for values with which no literal of a clause holds, until it has clashed so often.

        True if they are found, False if there are none, None if that is open.
        """
        self._return_to(0)
        self._drop()
        failed = [inner_literal(-literal) for literal in clause]
        while not self.is_lost():
            clash = self._clash()
            if clash is not None:
                self._learn_or_lose(clash)
                clashes -= 1
                continue
            literal = self._next_of(failed)
            if literal is None:
                if clashes <= 0:
                    return None
                literal = self._next_try()
            if literal is None:
                return True
            if self._held[literal] < 0:
                self._keep_cause(literal)
                return False
            self._try(literal)
        return False

    def keep(self, clause):
        """Keeps a clause as one that follows, just when it was found that its literals cannot all fail."""
        self._return_to(0)
        if not self.is_lost():
            self._causes.append((self._numbers, self._settled))
            self._add(inner_clause(clause))

    def proof(self):
        """Where there are no values, the proof of it: of the clauses that were learned those that are needed."""
        needed = {}
        seen = {}
        numbers = [self._lost_by]
        settled = [literal >> 1 for literal in self._clauses[self._lost_by]]
        while numbers or settled:
            if numbers:
                number = numbers.pop()
                if number >= self._given and number not in needed:
                    needed[number] = True
                    more, more_settled = self._causes[number - self._given]
                    numbers.extend(more)
                    settled.extend(more_settled)
                continue
            at = settled.pop()
            if at not in seen:
                seen[at] = True
                numbers.append(self._reasons[at])
                settled.extend([literal >> 1 for literal in self._clauses[self._reasons[at]]])
        clauses = [self._clauses[number] for number in sorted(needed)]
        return (*[tuple([outer_literal(literal) for literal in clause]) for clause in clauses], ())

    def _next_of(self, literals):
        """The next of the literals that must hold, even if it cannot; None if all do."""
        while len(self._tries) < len(literals):
            literal = literals[len(self._tries)]
            if self._held[literal] <= 0:
                return literal
            # A try that changes nothing.
            self._tries.append(len(self._trail))
        return None

    def _learn_or_lose(self, clash):
        """Learns from a clause whose literals all fail; where nothing is tried, all is lost."""
        if self._tries:
            self._learn(clash)
        else:
            self._lost_by = clash

    def _learn(self, clash):
        """Learns a clause from one whose literals all fail, and goes back to where it tells something."""
        seen, learned = self._cause(clash)
        learned = learned[:1] + [literal for literal in learned[1:] if not self._is_implied(literal, seen)]
        for at in seen:
            self._clashed[at] += self._bump
        self._bump += self._bump >> 4
        if self._bump > GREAT_BUMP:
            self._make_smaller()
        level = 0
        if len(learned) > 1:
            # The literal that failed last but one is the other one by which the clause is watched.
            latest = max(list(range(1, len(learned))), key=lambda at: self._levels[learned[at] >> 1])
            learned[1], learned[latest] = learned[latest], learned[1]
            level = self._levels[learned[1] >> 1]
        level_count = len({self._levels[literal >> 1]: True for literal in learned})
        self._return_to(level)
        number = self._watch(learned)
        self._causes.append((self._numbers, self._settled))
        if len(learned) > 1:
            self._learned.append((level_count, len(learned), number))
        self._take(learned[0], number)

    def _cause(self, clash):
        """The variables by which a clause clashes, back to where one literal of the last try does it alone; and the
        clause that this cannot be, this literal first.
        """
        self._numbers = [clash]
        self._settled = []
        seen = {}
        learned = [0]
        open_ones = 0
        at = len(self._trail)
        clause = self._clauses[clash]
        while True:
            for literal in clause:
                variable = literal >> 1
                if self._levels[variable] == 0:
                    self._settled.append(variable)
                elif variable not in seen:
                    seen[variable] = True
                    if self._levels[variable] == len(self._tries):
                        open_ones += 1
                    else:
                        learned.append(literal)
            at -= 1
            while self._trail[at] >> 1 not in seen:
                at -= 1
            open_ones -= 1
            if open_ones == 0:
                learned[0] = self._trail[at] ^ 1
                return seen, learned
            number = self._reasons[self._trail[at] >> 1]
            self._numbers.append(number)
            clause = self._clauses[number]

    def _is_implied(self, literal, seen):
        """True if a literal fails because of others that are seen."""
        number = self._reasons[literal >> 1]
        if number is None:
            return False
        settled = []
        for other in self._clauses[number]:
            if self._levels[other >> 1] == 0:
                settled.append(other >> 1)
            elif other >> 1 not in seen:
                return False
        self._numbers.append(number)
        self._settled.extend(settled)
        return True

    def _keep_cause(self, literal):
        """Keeps by what a literal fails."""
        self._numbers = []
        self._settled = []
        seen = {}
        todo = [literal >> 1]
        while todo:
            at = todo.pop()
            if at in seen:
                continue
            seen[at] = True
            if self._levels[at] == 0:
                self._settled.append(at)
            elif self._reasons[at] is not None:
                self._numbers.append(self._reasons[at])
                todo.extend([other >> 1 for other in self._clauses[self._reasons[at]]])

    def _return_to(self, level):
        """Takes back all tries behind so many, and queues their variables anew."""
        for literal in self._back_to(level):
            at = literal >> 1
            self._last[at] = literal
            if self._queued[at] != self._clashed[at] and at in self._aims:
                self._queued[at] = self._clashed[at]
                heappush(self._queue, (-self._clashed[at], at))

    def _next_try(self):
        """The literal that is tried next, None if all variables have values."""
        while self._queue:
            clashed, at = heappop(self._queue)
            if self._queued[at] == -clashed:
                self._queued[at] = NOT_QUEUED
                if self._held[2 * at] == 0:
                    return self._last[at]
        return None

    def _make_smaller(self):
        """Makes smaller how much the variables have clashed."""
        self._bump >>= SMALLER
        self._clashed = [clashed >> SMALLER for clashed in self._clashed]
        self._fill_queue()

    def _fill_queue(self):
        """Puts all variables that are tried into the queue."""
        for at in self._aims:
            self._queued[at] = self._clashed[at]
        self._queue = [(-self._clashed[at], at) for at in self._aims]
        heapify(self._queue)

    def _drop(self):
        """Drops those of the learned clauses that tell the least, if there are many; only where nothing is tried."""
        if len(self._learned) < self._kept:
            return
        self._kept += KEPT_MORE
        learned = sorted(self._learned, key=lambda row: (row[0], row[1]))
        half = len(learned) // 2
        dropped = {number: True for level_count, _, number in learned[half:] if level_count > FEW_LEVELS}
        self._learned = [row for row in learned if row[2] not in dropped]
        self._watched = [[number for number in numbers if number not in dropped] for numbers in self._watched]


def inner_literal(literal):
    """The literal for one as it is told from outside."""
    return 2 * literal if literal > 0 else 1 - 2 * literal


def inner_clause(clause):
    """The list of the literals of a clause that is told from outside, none of them twice."""
    return list({inner_literal(literal): True for literal in clause})


def outer_literal(literal):
    """The literal as it is told outside."""
    return -(literal >> 1) if literal & 1 else literal >> 1


def luby(at):
    """The number at a place, from 1, in 1 1 2 1 1 2 4 1 1 2 1 1 2 4 8 ..: how long to search until one begins anew."""
    size = 1
    while size < at:
        size = 2 * size + 1
    while at != size:
        size //= 2
        if at > size:
            at -= size
    return (size + 1) // 2
