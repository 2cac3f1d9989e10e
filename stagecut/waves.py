"""What is told cycle by cycle: what changes in it, and its texts."""

from stagecut.digits import is_number, number_of, number_text
from stagecut.errors import BadLine
from stagecut.lines import cycles_told, text_of, whole_lines

AS_AHEAD = "."


def changes(told):
    """What is told in cycle 0 and what differs from the cycle ahead, as triples (cycle, which, value)."""
    found = []
    for cycle, row in enumerate(told):
        for which, worth in enumerate(row):
            if cycle == 0 or worth != told[cycle - 1][which]:
                found.append((cycle, which, worth))
    return tuple(found)


def filled(found, cycles):
    """What is told in so many cycles, from what changes."""
    changed = {(cycle, which): worth for cycle, which, worth in found}
    row = [None] * len([cycle for cycle, _, _ in found if cycle == 0])
    told = []
    for cycle in range(cycles):
        row = [changed.get((cycle, which), worth) for which, worth in enumerate(row)]
        told.append(tuple(row))
    return tuple(told)


def print_waves(names, told):
    """The text of what is told under these names."""
    lines = [f"cycles {len(told)}"]
    for which, name in enumerate(names):
        worths = [row[which] for row in told]
        lines.append(" ".join([name, *wave_parts(worths)]))
    return text_of(lines)


def wave_parts(worths):
    """The texts of the values that something has, cycle by cycle."""
    found = []
    for cycle, worth in enumerate(worths):
        stays = cycle > 0 and worth == worths[cycle - 1]
        found.append(AS_AHEAD if stays else number_text(worth))
    return found


def read_waves(text):
    """The names, and what is told under them cycle by cycle."""
    lines = whole_lines(text)
    cycles = cycles_told(lines[0])
    names = []
    waves = []
    for number, line in enumerate(lines[1:]):
        name, *found = line.split(" ")
        worths = wave_values(found)
        if name == "" or len(found) != cycles or worths is None:
            raise BadLine(number + 2)
        names.append(name)
        waves.append(worths)
    told = [tuple([worths[cycle] for worths in waves]) for cycle in range(cycles)]
    return tuple(names), tuple(told)


def wave_values(found):
    """The values that the parts of a line tell, None if one of them tells none."""
    worths = []
    for part in found:
        if part == AS_AHEAD and worths:
            worths.append(worths[-1])
        elif is_number(part):
            worths.append(number_of(part))
        else:
            return None
    return worths
