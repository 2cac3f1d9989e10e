"""Proofs that clauses have no values, looked through clause by clause."""

from stagecut.follow import Follower


class Trimmer:
    """A proof, and which clauses each of its clauses follows by; clauses are left out of it one by one."""

    def __init__(self, clauses, proof):
        self._proof = proof
        self._ahead = len(clauses)
        self._follower = Follower()
        # By the number of a clause of the proof those by which it follows, and those that follow by it.
        self._used = {}
        self._users = {self._ahead + at: {} for at in range(len(proof))}
        self._left_out = {}
        for clause in clauses:
            self._follower.add(clause)
        for at, clause in enumerate(proof):
            self._keep(self._ahead + at, self._follower.clauses_used(clause))
            self._follower.add(clause)

    def left(self):
        """The clauses that cannot be left out, and the last one."""
        # Whether a clause can be left out hangs on those behind it alone: so those come first.
        for number in reversed(range(self._ahead, self._ahead + len(self._proof) - 1)):
            self._try_without(number)
        return tuple([clause for at, clause in enumerate(self._proof) if self._ahead + at not in self._left_out])

    def _keep(self, number, used):
        """Keeps by which clauses one follows."""
        for other in self._used.get(number, []):
            del self._users[other][number]
        self._used[number] = [other for other in used if other >= self._ahead]
        for other in self._used[number]:
            self._users[other][number] = True

    def _try_without(self, number):
        """Leaves a clause out if those that follow by it also do so without it."""
        self._left_out[number] = True
        found = {}
        for user in sorted(self._users[number]):
            self._follower.begin_anew(user, self._left_out)
            found[user] = self._follower.clauses_used(self._proof[user - self._ahead])
            if found[user] is None:
                del self._left_out[number]
                return
        for user, used in found.items():
            self._keep(user, used)
        self._keep(number, [])


def is_proof(clauses, proof):
    """True if each clause of a proof follows from the clauses and those ahead of it, and the last one is empty."""
    if not proof or len(proof[-1]) > 0:
        return False
    follower = Follower()
    for clause in clauses:
        follower.add(clause)
    for clause in proof:
        if not follower.follows(clause):
            return False
        follower.add(clause)
    return True


def are_values(clauses, values):
    """True if a tuple of truths satisfies clauses."""
    return all([any([holds(literal, values) for literal in clause]) for clause in clauses])


def holds(literal, values):
    """True if a literal holds with these values of the variables."""
    return values[abs(literal) - 1] == (literal > 0)


def trimmed(clauses, proof):
    """A proof of clauses of a proof, in their order, of which none but the last can be left out."""
    return Trimmer(clauses, proof).left()
