"""What follows from clauses: if all literals of a clause are taken not to hold, they clash.

Here variables have new numbers, and the literal of one is twice its number, or one more for its negative.
"""


class Follower:
    """Clauses, numbered in the order in which they come, and what holds by them.

    Each clause of two or more literals is watched by its first two: as long as neither fails, it tells nothing.
    """

    def __init__(self):
        self._clauses = []
        # The numbers of the clauses of no literal or just one.
        self._short = []
        self._variables = {}
        # By literal: 1 if it holds, -1 if it fails, 0 if that is open; and the clauses that it watches.
        self._held = []
        self._watched = []
        # The literals that hold, in order, and by variable the clause by which it has its value.
        self._trail = []
        self._reasons = []
        self._looked_at = 0
        # A clause all of whose literals fail though nothing is taken, None if there is none.
        self._lost_by = None
        # Only clauses below this number count, and none that is left out.
        self._limit = 0
        self._left_out = {}

    def add(self, clause):
        """Takes a clause in behind the others."""
        # Those literals come first that do not fail, so that the clause is watched by them.
        literals = sorted(self._inner(clause), key=lambda literal: self._held[literal], reverse=True)
        number = len(self._clauses)
        self._clauses.append(literals)
        self._limit = number + 1
        if is_always_true(literals):
            return
        if len(literals) > 1:
            self._watched[literals[0]].append(number)
            self._watched[literals[1]].append(number)
        else:
            self._short.append(number)
        self._settle([number])

    def begin_anew(self, limit, left_out):
        """Lets only clauses below a number count from now on, and none of those that are left out."""
        self._back_to(0)
        self._limit = limit
        self._left_out = left_out
        self._lost_by = None
        self._settle([number for number in self._short if self._counts(number)])

    def follows(self, clause):
        """True if a clause follows."""
        return self.clauses_used(clause) is not None

    def clauses_used(self, clause):
        """The numbers of the clauses by which a clause follows, None if it does not."""
        literals = self._inner(clause)
        if is_always_true(literals):
            return []
        begin = len(self._trail)
        clash = self._clash_without(literals)
        found = None if clash is None else self._clauses_behind(clash)
        self._back_to(begin)
        return found

    def _inner(self, clause):
        """The list of the literals of a clause, as they are here, none of them twice."""
        found = {}
        for literal in clause:
            name = abs(literal)
            if name not in self._variables:
                self._variables[name] = len(self._reasons)
                self._held.extend([0, 0])
                self._watched.extend([[], []])
                self._reasons.append(None)
            found[2 * self._variables[name] + int(literal < 0)] = True
        return list(found)

    def _counts(self, number):
        """True if a clause counts."""
        return number < self._limit and number not in self._left_out

    def _settle(self, numbers):
        """Takes what follows where nothing is taken, some clauses telling something by themselves."""
        for number in numbers:
            clause = self._clauses[number]
            if self._lost_by is not None:
                return
            if not clause or self._held[clause[0]] < 0:
                self._lost_by = number
            elif self._held[clause[0]] == 0 and (len(clause) == 1 or self._held[clause[1]] < 0):
                self._take(clause[0], number)
        if self._lost_by is None:
            self._lost_by = self._clash()

    def _clash_without(self, literals):
        """The clause that clashes when none of these literals holds, None if none does."""
        if self._lost_by is not None:
            return self._lost_by
        for literal in literals:
            if self._held[literal] > 0:
                return self._reasons[literal >> 1]
            if self._held[literal] == 0:
                self._take(literal ^ 1, None)
        return self._clash()

    def _take(self, literal, reason):
        """Lets a literal hold, by a clause or because it is taken to."""
        self._held[literal] = 1
        self._held[literal ^ 1] = -1
        self._reasons[literal >> 1] = reason
        self._trail.append(literal)

    def _back_to(self, begin):
        """Lets only so many literals, the first ones, hold."""
        for literal in self._trail[begin:]:
            self._held[literal] = 0
            self._held[literal ^ 1] = 0
        del self._trail[begin:]
        self._looked_at = min(self._looked_at, begin)

    def _clash(self):
        """Takes all that follows; a clause all of whose literals fail, None if there is none."""
        held = self._held
        while self._looked_at < len(self._trail):
            failed = self._trail[self._looked_at] ^ 1
            self._looked_at += 1
            numbers = list(self._watched[failed])
            kept = []
            self._watched[failed] = kept
            for at, number in enumerate(numbers):
                clause = self._clauses[number]
                if clause[0] == failed:
                    clause[0] = clause[1]
                    clause[1] = failed
                if held[clause[0]] > 0 or not self._counts(number):
                    kept.append(number)
                elif not self._finds_other(number, clause):
                    kept.append(number)
                    if held[clause[0]] < 0:
                        kept.extend(numbers[at + 1:])
                        return number
                    self._take(clause[0], number)
        return None

    def _finds_other(self, number, clause):
        """True if a clause has a literal that does not fail behind the first two; it is then watched by that one."""
        for place in range(2, len(clause)):
            other = clause[place]
            if self._held[other] >= 0:
                clause[place] = clause[1]
                clause[1] = other
                self._watched[other].append(number)
                return True
        return False

    def _clauses_behind(self, clash):
        """The numbers of the clauses by which all literals of a clause fail, its own one among them."""
        found = {clash: True}
        seen = {}
        todo = list(self._clauses[clash])
        while todo:
            at = todo.pop() >> 1
            if at not in seen:
                seen[at] = True
                if self._reasons[at] is not None:
                    found[self._reasons[at]] = True
                    todo.extend(self._clauses[self._reasons[at]])
        return list(found)


def is_always_true(literals):
    """True if one of the literals is the negative of another one."""
    known = {literal: True for literal in literals}
    return any([literal ^ 1 in known for literal in literals])
