"""What the cores of a plan read and name."""

from stagecut.shapes import top_down


def readings(core):
    """The readings of a core, from the left, a file ahead of what its address reads."""
    return [node[:2] for node in top_down(core) if node[0] in ("reg", "read")]


def lets_named(core):
    """The numbers of the lets that a core names, from the left."""
    return [node[1] for node in top_down(core) if node[0] == "let"]


def plan_rows(plan):
    """The rows of a plan as (word, number, stage, cores): lets, guesses and rows that write."""
    rows = [("let", at, row[2], (row[3],)) for at, row in enumerate(plan[3])]
    rows.extend([("guess", at, row[1], (row[2],)) for at, row in enumerate(plan[5])])
    for at, row in enumerate(plan[4]):
        rows.append(("write", at, row[2], tuple([core for core in row[3:] if core is not None])))
    return rows


def written_in(plan, word, number):
    """The stage in which a register (word "set") or file ("put") is written, None if it is not."""
    for row in plan[4]:
        if row[0] == word and row[1] == number:
            return row[2]
    return None


def guessed_in(plan, number):
    """The stage in which a register is guessed, None if it is not."""
    for row in plan[5]:
        if row[0] == number:
            return row[1]
    return None
