"""Proofs of clauses looked through as point 10.5 has it."""


def follows(clauses, clause):
    """True if a clause follows from others."""
    if any(-literal in clause for literal in clause):
        return True
    held = {-literal for literal in clause}
    more = True
    while more:
        more = False
        for other in clauses:
            if other & held:
                continue
            left = [literal for literal in other if -literal not in held]
            if not left:
                return True
            if len(left) == 1:
                held.add(left[0])
                more = True
    return False


def is_slow_proof(clauses, proof):
    """True if each clause of a proof follows from those ahead of it, and the last one is empty."""
    known = [frozenset(clause) for clause in clauses]
    for clause in proof:
        if not follows(known, clause):
            return False
        known.append(frozenset(clause))
    return bool(proof) and proof[-1] == ()


def satisfies(clauses, values):
    """True if the values satisfy all clauses."""
    return all(any(values[abs(literal) - 1] == (literal > 0) for literal in clause) for clause in clauses)


def birds(many, holes):
    """Clauses that say that so many birds sit in holes, no two in one."""
    place = [[bird * holes + hole + 1 for hole in range(holes)] for bird in range(many)]
    clauses = [tuple(row) for row in place]
    for hole in range(holes):
        for bird in range(many):
            clauses.extend((-place[bird][hole], -place[other][hole]) for other in range(bird))
    return many * holes, tuple(clauses)
