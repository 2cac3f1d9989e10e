"""Which instruction is in which slot in each cycle."""

from stagecut.digits import DIGITS
from stagecut.errors import BadLine
from stagecut.flow import Flow
from stagecut.lines import cycles_told, text_of

EMPTY = -1
NOWHERE = "."


def diagram(plan, state, cycles):
    """The numbers of the instructions in the slots, cycle by cycle."""
    flow = Flow(plan, (state,))
    rows = []
    for _ in range(cycles):
        flow.let_in()
        rows.append(flow.numbers())
        flow.work()
    return tuple(rows)


def print_diagram(rows):
    """The text of a diagram."""
    greatest = max([max(row) for row in rows], default=EMPTY)
    lines = [f"cycles {len(rows)}"]
    for number in range(greatest + 1):
        lines.append(" ".join([slot_text(row, number) for row in rows]))
    return text_of(lines)


def slot_text(row, number):
    """The slot in which an instruction is in a cycle, as a text."""
    return str(row.index(number)) if number in row else NOWHERE


def read_diagram(text, slots):
    """The diagram with so many slots that a text tells."""
    if not text.endswith("\n"):
        raise BadLine(1)
    lines = text.split("\n")[:-1]
    cycles = cycles_told(lines[0])
    # For each cycle and slot that is not empty the instruction in it.
    held = {}
    for number, line in enumerate(lines[1:]):
        found = line.split(" ")
        if len(found) != cycles or not take_line(held, found, number, slots):
            raise BadLine(number + 2)
    rows = []
    for cycle in range(cycles):
        rows.append(tuple([held.get((cycle, slot), EMPTY) for slot in range(slots)]))
    return tuple(rows)


def take_line(held, found, number, slots):
    """Puts an instruction where the parts of its line tell; False if it cannot be there."""
    for cycle, part in enumerate(found):
        if part == NOWHERE:
            continue
        if len(part) != 1 or part not in DIGITS or int(part) >= slots or (cycle, int(part)) in held:
            return False
        held[(cycle, int(part))] = number
    return True
