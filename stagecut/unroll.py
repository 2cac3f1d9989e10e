"""Whether two nets can tell something else."""

from stagecut.asking import answer, said
from stagecut.frames import Frames


def agree(one, free, other, freed, cycles):
    """Values of the latches in free and freed with which two nets do not tell the same, or None; clauses; a proof."""
    frames = Frames(len(free))
    told = frames.follow(one, free, cycles)
    other_told = frames.follow(other, freed, cycles)
    saying = said(frames, told + other_told)
    differing = {}
    for literal, other_literal in zip(told, other_told):
        if literal != other_literal:
            differing[frames.wires.odd(literal, other_literal)] = True
    saying.say(list(differing))
    return answer(frames, saying, [[(saying.name(literal), literal) for literal in differing]])
