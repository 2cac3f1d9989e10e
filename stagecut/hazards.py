"""How what the rows of a plan read comes to them."""

from stagecut.cores import guessed_in, plan_rows, readings, written_in
from stagecut.stages import gap, times


def hazards(plan):
    """For each reading its row, what is read, how far ahead of the write it stands, and how it is read."""
    known = {row[:2]: max(stages) for row, stages in zip(plan[4], times(plan))}
    found = []
    for word, number, stage, cores in plan_rows(plan):
        for core in cores:
            for reading in readings(core):
                target = target_of(reading)
                how = how_read(plan, target, stage, known)
                found.append(((word, number, stage), reading, gap(plan, target[0], target[1], stage), how))
    return tuple(found)


def target_of(reading):
    """The word and number that a row would have that writes what is read."""
    return ("set" if reading[0] == "reg" else "put", reading[1])


def how_read(plan, target, stage, known):
    """How a row of a stage reads a register or file; known tells when what is written there is known."""
    if target[0] == "set" and guessed_in(plan, target[1]) is not None:
        return "front"
    written = written_in(plan, target[0], target[1])
    if written is None:
        return "fixed"
    if written == stage:
        return "own"
    return "passed" if known[target] <= stage + 1 else "waits"
