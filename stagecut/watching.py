"""Clauses, and the literals that hold because of them.

Here the literal of a variable is twice its number, or one more for its negative.
"""


class Watching:
    """Clauses with numbers, in the order in which they come, and the literals that hold.

    Each clause of two or more literals is watched by its first two: as long as neither fails, it tells nothing.
    """

    def __init__(self):
        self._clauses = []
        # The numbers of clauses that do not count.
        self._left_out = {}
        # By literal: 1 if it holds, -1 if it fails, 0 if that is open; and the clauses that are watched by it.
        self._held = []
        self._watched = []
        # The literals that hold, in the order in which they came to hold, and how many there were at each try.
        self._trail = []
        self._tries = []
        self._looked_at = 0
        # By variable: at which try it came to its value, and by which clause; that is None for what is tried.
        self._levels = []
        self._reasons = []
        # A clause all of whose literals fail though nothing is tried, None if there is none.
        self._lost_by = None

    def _make_variables(self, many):
        """Makes so many new variables."""
        self._held.extend([0] * (2 * many))
        self._watched.extend([[] for _ in range(2 * many)])
        self._levels.extend([0] * many)
        self._reasons.extend([None] * many)

    def _add(self, literals):
        """Takes a clause in while nothing is tried, and lets hold what it tells by itself."""
        # First come the literals that do not fail, so that it is watched by them.
        self._start(self._watch(sorted(literals, key=lambda literal: self._held[literal], reverse=True)))

    def _watch(self, clause):
        """Takes a clause in, watched by its first two literals; gives its number."""
        number = len(self._clauses)
        self._clauses.append(clause)
        if len(clause) > 1:
            self._watched[clause[0]].append(number)
            self._watched[clause[1]].append(number)
        return number

    def _start(self, number):
        """Lets hold what a clause tells while nothing is tried and all of its literals but the first one fail."""
        clause = self._clauses[number]
        if not clause or self._held[clause[0]] < 0:
            self._lost_by = number
        elif self._held[clause[0]] == 0 and (len(clause) == 1 or self._held[clause[1]] < 0):
            self._take(clause[0], number)

    def _take(self, literal, reason):
        """Lets a literal hold, by a clause or by a try."""
        self._held[literal] = 1
        self._held[literal ^ 1] = -1
        self._levels[literal >> 1] = len(self._tries)
        self._reasons[literal >> 1] = reason
        self._trail.append(literal)

    def _try(self, literal):
        """Lets a literal hold as the first one of a new try."""
        self._tries.append(len(self._trail))
        self._take(literal, None)

    def _clash(self):
        """Takes all that follows; the number of a clause whose literals all fail, None if there is none."""
        held = self._held
        watched = self._watched
        while self._looked_at < len(self._trail):
            failed = self._trail[self._looked_at] ^ 1
            self._looked_at += 1
            numbers = list(watched[failed])
            kept = []
            watched[failed] = kept
            for at, number in enumerate(numbers):
                clause = self._clauses[number]
                first = clause[0]
                if first == failed:
                    first = clause[1]
                    clause[0] = first
                    clause[1] = failed
                if held[first] > 0 or number in self._left_out:
                    kept.append(number)
                    continue
                for place in range(2, len(clause)):
                    other = clause[place]
                    if held[other] >= 0:
                        clause[1] = other
                        clause[place] = failed
                        watched[other].append(number)
                        break
                else:
                    kept.append(number)
                    if held[first] < 0:
                        kept.extend(numbers[at + 1:])
                        return number
                    self._take(first, number)
        return None

    def _back_to(self, level):
        """Takes back all tries behind so many; gives the literals that held by them."""
        if level == len(self._tries):
            return []
        undone = self._undo(self._tries[level])
        del self._tries[level:]
        return undone

    def _undo(self, held):
        """Takes back all literals but so many, the first ones; gives them."""
        undone = self._trail[held:]
        for literal in undone:
            self._held[literal] = 0
            self._held[literal ^ 1] = 0
        del self._trail[held:]
        self._looked_at = min(self._looked_at, held)
        return undone
