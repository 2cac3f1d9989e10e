"""Asking whether what nets tell can be something."""

from stagecut.saying import Saying
from stagecut.sweep import Sweep


def said(frames, told):
    """What nets tell that are followed, said as clauses."""
    return Saying(frames.wires, frames.leaves, told)


def told_parts(frames, told):
    """For each told literal the pair of its variable and itself."""
    return [(1 + len(frames.leaves) + at, literal) for at, literal in enumerate(told)]


def turned(part):
    """The other value of a pair of a literal in clauses and the literal of a node."""
    return (-part[0], part[1] ^ 1)


def answer(frames, saying, ends):
    """Values of the leaves, or None; the clauses, the last of them what is asked; and a proof.

    What is asked is that one part of each end holds; a part is the literal of a variable with that of a node.
    """
    clauses = saying.clauses + [tuple([name for name, _ in parts]) for parts in ends]
    sweep = Sweep(saying, frames.leaves, [[literal for _, literal in parts] for parts in ends], clauses)
    values = sweep.found_values()
    if values is None:
        return None, tuple(clauses), sweep.found_proof()
    return tuple(values), tuple(clauses), ()
