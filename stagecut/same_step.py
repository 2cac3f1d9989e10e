"""Steps of machines compared for every state."""

from stagecut.blast import blast
from stagecut.build_step import build_step
from stagecut.compare import difference


def same_step(one, other, most):
    """A state from which the steps of two plans lead to different ones, None if there is none."""
    found = difference(step_net(one), step_net(other), most)
    return None if found is None else found[1]


def step_net(plan):
    """A net that does the step of a plan; its latches are the bits of a state, and it tells nothing."""
    circuit = build_step(plan)
    contents = tuple([(0,) * (1 << bits) for bits, _ in circuit[1]])
    firsts, ands, nexts, _ = blast(circuit, contents)
    return (firsts, ands, nexts, ())
