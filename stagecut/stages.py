"""In which stages something is known, written and used."""

from stagecut.cores import lets_named, plan_rows, readings, written_in


def times(plan):
    """For each row that writes the stages in which its test, address and value are known."""
    found = []
    for row in plan[4]:
        found.append(tuple([known_in(plan, core, row[2]) for core in (row[5], row[3], row[4])]))
    return tuple(found)


def known_in(plan, core, stage):
    """The stage in which a core of a row in a stage is known, 0 if it is not there."""
    if core is None:
        return 0
    if readings(core):
        return stage
    return max([plan[3][at][2] for at in lets_named(core)], default=0)


def gap(plan, word, number, stage):
    """How many stages lie between a stage and the one in which something is written, 0 if it is not."""
    written = written_in(plan, word, number)
    return 0 if written is None else written - stage


def last_use(plan, n):
    """The last stage of a row that names a let, or its own."""
    last = plan[3][n][2]
    for row in plan_rows(plan):
        if any([n in lets_named(core) for core in row[3]]):
            last = max(last, row[2])
    return last
