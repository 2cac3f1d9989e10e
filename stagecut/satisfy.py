"""Values that satisfy clauses, or proofs that there are none."""

from stagecut.search import Search


def satisfy(many, clauses):
    """Values of the variables 1 to many that satisfy clauses, and no proof; or None and the proof that none do."""
    search = Search(many, clauses)
    if search.is_found():
        return tuple([search.holds(at) for at in range(1, many + 1)]), ()
    return None, search.proof()
