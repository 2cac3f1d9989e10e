"""Values that satisfy clauses, looked for by trying values and learning clauses from what clashes.

Here the literal of a variable is twice its number, or one more for its negative.
"""

from heapq import heapify, heappop, heappush

# After so many clashes, times what luby tells, the search begins anew with what it has learned.
CLASHES_A_RUN = 100
# How many learned clauses are kept at first, and how many more each time when some are dropped.
KEPT_AT_FIRST = 2000
KEPT_MORE = 500
# Clauses over so few levels are never dropped.
FEW_LEVELS = 2
# What a variable that clashes gets at first, and how great it becomes before all are made smaller.
FIRST_BUMP = 1024
GREAT_BUMP = 1000000000000000000
SMALLER = 40
# What stands in the place of that for a variable that is not in the queue.
NOT_QUEUED = -1


class Search:
    """The values so far, and the clauses.

    Each clause of two or more literals is watched by its first two: as long as neither fails, it tells nothing.
    """

    def __init__(self, many, clauses):
        # By literal: 1 if it holds, -1 if it fails, 0 if that is open.
        self._held = [0] * (2 * many + 2)
        self._watched = [[] for _ in range(2 * many + 2)]
        # The literals that hold, in the order in which they came to hold, and how many there were at each try.
        self._trail = []
        self._tries = []
        self._looked_at = 0
        # By variable: at which try it came to its value, by which clause, and which literal held last.
        self._levels = [0] * (many + 1)
        self._reasons = [None] * (many + 1)
        self._last = [2 * at + 1 for at in range(many + 1)]
        # How much each variable has clashed, and the queue of variables by that.
        self._clashed = [0] * (many + 1)
        self._bump = FIRST_BUMP
        self._queued = [NOT_QUEUED] * (many + 1)
        self._queue = []
        # The variables that are tried.
        self._aims = {}
        self.aim_at({at: True for at in range(1, many + 1)})
        self._learned = []
        self._kept = KEPT_AT_FIRST
        # The clauses that were learned, in order, with the literals as they are told from outside.
        self.proof = []
        self.is_lost = not all([self._start([inner_literal(literal) for literal in clause]) for clause in clauses])

    def _start(self, clause):
        """Takes a clause in; False if it clashes at once."""
        literals = sorted({literal: True for literal in clause})
        if len(literals) > 1:
            self._watch(literals)
            return True
        if not literals or self._held[literals[0]] < 0:
            return False
        if self._held[literals[0]] == 0:
            self._take(literals[0], None)
        return True

    def holds(self, at):
        """True if a variable has the value True."""
        return self._held[2 * at] > 0

    def is_open(self, at):
        """True if a variable has no value."""
        return self._held[2 * at] == 0

    def aim_at(self, variables):
        """Lets only these variables be tried from now on."""
        self._back_to(0)
        for at in self._aims:
            self._queued[at] = NOT_QUEUED
        self._aims = variables
        self._fill_queue()

    def add(self, clause):
        """Takes in a clause that follows from those that are there, and tells it in the proof."""
        self._back_to(0)
        self.proof.append(clause)
        literals = [inner_literal(literal) for literal in clause]
        if all([self._held[literal] <= 0 for literal in literals]):
            open_ones = [literal for literal in literals if self._held[literal] == 0]
            self.is_lost = self.is_lost or not self._start(open_ones) or self._clash() is not None

    def is_found(self):
        """Looks for values; True if they are found, False if the proof shows that there are none."""
        runs = 1
        while not self.is_lost:
            if self.found_with((), CLASHES_A_RUN * luby(runs)):
                return True
            runs += 1
        self.proof.append(())
        return False

    def found_with(self, clause, clashes):
        """Looks for values with which no literal of a clause holds, until it has clashed so often.

        True if they are found, False if there are none, None if that is open.
        """
        self._back_to(0)
        self._drop()
        failed = [inner_literal(-literal) for literal in clause]
        while not self.is_lost:
            clash = self._clash()
            if clash is not None:
                self._learn_or_lose(clash)
                clashes -= 1
                continue
            literal = self._next_of(failed)
            if literal is None:
                if clashes <= 0:
                    return None
                literal = self._next_try()
            if literal is None:
                return True
            if self._held[literal] < 0:
                return False
            self._tries.append(len(self._trail))
            self._take(literal, None)
        return False

    def _next_of(self, literals):
        """The next of the literals that must hold, even if it cannot; None if all do."""
        while len(self._tries) < len(literals):
            literal = literals[len(self._tries)]
            if self._held[literal] <= 0:
                return literal
            # A try that changes nothing.
            self._tries.append(len(self._trail))
        return None

    def _learn_or_lose(self, clash):
        """Learns from a clause whose literals all fail; where nothing is tried, all is lost."""
        if self._tries:
            self._learn(clash)
        else:
            self.is_lost = True

    def _watch(self, clause):
        """Lets a clause be watched by its first two literals."""
        self._watched[clause[0]].append(clause)
        self._watched[clause[1]].append(clause)

    def _take(self, literal, reason):
        """Lets a literal hold, by a clause or by a try."""
        self._held[literal] = 1
        self._held[literal ^ 1] = -1
        self._levels[literal >> 1] = len(self._tries)
        self._reasons[literal >> 1] = reason
        self._trail.append(literal)

    def _clash(self):
        """Takes all that follows; a clause whose literals all fail, None if there is none."""
        held = self._held
        watched = self._watched
        while self._looked_at < len(self._trail):
            failed = self._trail[self._looked_at] ^ 1
            self._looked_at += 1
            clauses = list(watched[failed])
            kept = []
            watched[failed] = kept
            for at, clause in enumerate(clauses):
                first = clause[0]
                if first == failed:
                    first = clause[1]
                    clause[0] = first
                    clause[1] = failed
                if held[first] > 0:
                    kept.append(clause)
                    continue
                for place in range(2, len(clause)):
                    other = clause[place]
                    if held[other] >= 0:
                        clause[1] = other
                        clause[place] = failed
                        watched[other].append(clause)
                        break
                else:
                    kept.append(clause)
                    if held[first] < 0:
                        kept.extend(clauses[at + 1:])
                        return clause
                    self._take(first, clause)
        return None

    def _learn(self, clash):
        """Learns a clause from one whose literals all fail, and goes back to where it tells something."""
        seen, learned = self._cause(clash)
        learned = learned[:1] + [literal for literal in learned[1:] if not self._is_implied(literal, seen)]
        self.proof.append(tuple([outer_literal(literal) for literal in learned]))
        for at in seen:
            self._clashed[at] += self._bump
        self._bump += self._bump >> 4
        if self._bump > GREAT_BUMP:
            self._make_smaller()
        if len(learned) == 1:
            self._back_to(0)
            self._take(learned[0], None)
            return
        # The literal that failed last but one is the other one by which the clause is watched.
        latest = max(list(range(1, len(learned))), key=lambda at: self._levels[learned[at] >> 1])
        learned[1], learned[latest] = learned[latest], learned[1]
        level_count = len({self._levels[literal >> 1]: True for literal in learned})
        self._back_to(self._levels[learned[1] >> 1])
        self._learned.append((level_count, len(learned), learned))
        self._watch(learned)
        self._take(learned[0], learned)

    def _cause(self, clash):
        """The variables by which a clause clashes, back to where one literal of the last try does it alone; and the
        clause that this cannot be, this literal first.
        """
        seen = {}
        learned = [0]
        open_ones = 0
        at = len(self._trail)
        clause = clash
        while True:
            for literal in clause:
                variable = literal >> 1
                if variable not in seen and self._levels[variable] > 0:
                    seen[variable] = True
                    if self._levels[variable] == len(self._tries):
                        open_ones += 1
                    else:
                        learned.append(literal)
            at -= 1
            while self._trail[at] >> 1 not in seen:
                at -= 1
            open_ones -= 1
            if open_ones == 0:
                learned[0] = self._trail[at] ^ 1
                return seen, learned
            clause = self._reasons[self._trail[at] >> 1]

    def _is_implied(self, literal, seen):
        """True if a literal fails because of others that are seen."""
        reason = self._reasons[literal >> 1]
        if reason is None:
            return False
        for other in reason:
            if other >> 1 not in seen and self._levels[other >> 1] > 0:
                return False
        return True

    def _back_to(self, level):
        """Takes back all tries behind so many."""
        if level == len(self._tries):
            return
        begin = self._tries[level]
        for literal in self._trail[begin:]:
            at = literal >> 1
            self._held[literal] = 0
            self._held[literal ^ 1] = 0
            self._last[at] = literal
            if self._queued[at] != self._clashed[at] and at in self._aims:
                self._queued[at] = self._clashed[at]
                heappush(self._queue, (-self._clashed[at], at))
        del self._trail[begin:]
        del self._tries[level:]
        self._looked_at = begin

    def _next_try(self):
        """The literal that is tried next, None if all variables have values."""
        while self._queue:
            clashed, at = heappop(self._queue)
            if self._queued[at] == -clashed:
                self._queued[at] = NOT_QUEUED
                if self._held[2 * at] == 0:
                    return self._last[at]
        return None

    def _make_smaller(self):
        """Makes smaller how much the variables have clashed."""
        self._bump >>= SMALLER
        self._clashed = [clashed >> SMALLER for clashed in self._clashed]
        self._fill_queue()

    def _fill_queue(self):
        """Puts all variables that are tried into the queue."""
        for at in self._aims:
            self._queued[at] = self._clashed[at]
        self._queue = [(-self._clashed[at], at) for at in self._aims]
        heapify(self._queue)

    def _drop(self):
        """Drops those of the learned clauses that tell the least, if there are many; only where nothing is tried."""
        if len(self._learned) < self._kept:
            return
        self._kept += KEPT_MORE
        learned = sorted(self._learned, key=lambda row: (row[0], row[1]))
        half = len(learned) // 2
        for level_count, _, clause in learned[half:]:
            if level_count > FEW_LEVELS:
                clause.clear()
        self._learned = [row for row in learned if row[2]]
        self._watched = [[kept for kept in clauses if kept] for clauses in self._watched]


def inner_literal(literal):
    """The literal here for one as it is told from outside."""
    return 2 * literal if literal > 0 else 1 - 2 * literal


def outer_literal(literal):
    """The literal as it is told outside."""
    return -(literal >> 1) if literal & 1 else literal >> 1


def luby(at):
    """The number at a place, from 1, in 1 1 2 1 1 2 4 1 1 2 1 1 2 4 8 ..: how long to search until one begins anew."""
    size = 1
    while size < at:
        size = 2 * size + 1
    while at != size:
        size //= 2
        if at > size:
            at -= size
    return (size + 1) // 2
