"""What follows from clauses: if all literals of a clause are taken not to hold, they clash."""

from stagecut.watching import Watching


class Follower(Watching):
    """Clauses, numbered in the order in which they come, and what follows from them."""

    def __init__(self):
        Watching.__init__(self)
        # New numbers of the variables, so that they are few whatever they are called.
        self._variables = {}
        # The numbers of the clauses of no literal or just one.
        self._short = []

    def add(self, clause):
        """Takes a clause in behind the others."""
        literals = self._inner(clause)
        if len(literals) < 2:
            self._short.append(len(self._clauses))
        self._add(literals)
        self._settle()

    def begin_anew(self, limit, left_out):
        """Lets only clauses below a number count from now on, and none of those that are left out."""
        self._undo(0)
        self._lost_by = None
        self._left_out = {**left_out, **{number: True for number in range(limit, len(self._clauses))}}
        for number in self._short:
            if number not in self._left_out:
                self._start(number)
        self._settle()

    def follows(self, clause):
        """True if a clause follows."""
        literals = self._inner(clause)
        is_shown = is_always_true(literals) or self._clash_without(literals) is not None
        self._back_to(0)
        return is_shown

    def clauses_used(self, clause):
        """The numbers of the clauses by which a clause follows, None if it does not."""
        literals = self._inner(clause)
        if is_always_true(literals):
            return []
        clash = self._clash_without(literals)
        found = None if clash is None else self._clauses_behind(clash)
        self._back_to(0)
        return found

    def _inner(self, clause):
        """The list of the literals of a clause, as they are here, none of them twice."""
        found = {}
        for literal in clause:
            name = abs(literal)
            if name not in self._variables:
                self._variables[name] = len(self._reasons)
                self._make_variables(1)
            found[2 * self._variables[name] + int(literal < 0)] = True
        return list(found)

    def _settle(self):
        """Takes what follows where nothing is tried."""
        if self._lost_by is None:
            self._lost_by = self._clash()

    def _clash_without(self, literals):
        """The clause that clashes when none of these literals holds, None if none does."""
        if self._lost_by is not None:
            return self._lost_by
        self._tries.append(len(self._trail))
        for literal in literals:
            if self._held[literal] > 0:
                return self._reasons[literal >> 1]
            if self._held[literal] == 0:
                self._take(literal ^ 1, None)
        return self._clash()

    def _clauses_behind(self, clash):
        """The numbers of the clauses by which all literals of a clause fail, its own one among them."""
        found = {clash: True}
        seen = {}
        todo = list(self._clauses[clash])
        while todo:
            at = todo.pop() >> 1
            if at not in seen:
                seen[at] = True
                if self._reasons[at] is not None:
                    found[self._reasons[at]] = True
                    todo.extend(self._clauses[self._reasons[at]])
        return list(found)


def is_always_true(literals):
    """True if one of the literals is the negative of another one."""
    known = {literal: True for literal in literals}
    return any([literal ^ 1 in known for literal in literals])
