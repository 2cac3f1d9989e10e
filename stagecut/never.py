"""Whether what a net tells can be 1."""

from stagecut.asking import answer, said, told_parts, turned
from stagecut.frames import Frames
from stagecut.gates import run_net


def never(net, which, free, cycles):
    """Values of the latches in free with which a told bit is 1 in one of the cycles, or None; clauses; a proof."""
    frames, saying, parts = followed(net, which, free, cycles)
    return answer(frames, saying, [parts])


def holds_on(net, which, many):
    """A state from which a told bit is 0 in so many cycles, and then 1, or None; clauses; a proof."""
    frames, saying, parts = followed(net, which, list(range(len(net[0]))), many + 1)
    return answer(frames, saying, [*[[turned(part)] for part in parts[:-1]], parts[-1:]])


def is_never(net, which, many):
    """True if a told bit is not 1 in so many first cycles, and cannot be 1 behind as many in which it is 0."""
    if any([told[which] for told in run_net(net, many)]):
        return False
    return holds_on(net, which, many)[0] is None


def followed(net, which, free, cycles):
    """A net followed over cycles, what that says, and the parts of a told bit, cycle by cycle."""
    frames = Frames(len(free))
    told = frames.follow(net, free, cycles)
    parts = told_parts(frames, told)
    return frames, said(frames, told), parts[which::len(net[3])]
