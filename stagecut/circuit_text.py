"""Circuits as texts."""

from stagecut.circuit import ROW_LENGTHS, is_circuit
from stagecut.digits import is_short_number
from stagecut.errors import BadLine
from stagecut.lines import text_of, whole_lines
from stagecut.words import SIGNS

# The first words of lines, in the order in which they stand.
LINE_WORDS = ("register", "memory", "row", "next", "store", "told")
NEXT_AT = 3
TOLD_AT = 5
LINE_NUMBERS = {"register": 2, "memory": 2, "store": 4}


def print_circuit(circuit):
    """The text of a circuit."""
    registers, memories, rows, nexts, stores, outs = circuit
    lines = [("register", *part) for part in registers]
    lines.extend([("memory", *part) for part in memories])
    lines.extend([("row", *part) for part in rows])
    lines.append(("next", *nexts))
    lines.extend([("store", *part) for part in stores])
    lines.append(("told", *outs))
    return text_of([" ".join([str(part) for part in line]) for line in lines])


def parse_circuit(text):
    """The circuit that a text tells."""
    lines = whole_lines(text)
    found = read_lines(lines)
    if not found["told"]:
        raise BadLine(len(lines))
    circuit = (
        tuple(found["register"]), tuple(found["memory"]), tuple(found["row"]),
        found["next"][0], tuple(found["store"]), found["told"][0],
    )
    if not is_circuit(circuit):
        raise BadLine(len(lines))
    return circuit


def read_lines(lines):
    """What the lines tell behind their first words, by these words."""
    found = {word: [] for word in LINE_WORDS}
    place = 0
    for number, line in enumerate(lines):
        parts = line.split(" ")
        if not can_follow(place, parts[0]):
            raise BadLine(number + 1)
        place = LINE_WORDS.index(parts[0])
        told = read_row(parts[1:]) if parts[0] == "row" else read_numbers(parts[1:], LINE_NUMBERS.get(parts[0]))
        if told is None:
            raise BadLine(number + 1)
        found[parts[0]].append(told)
    return found


def can_follow(place, word):
    """True if a line with a word can stand behind one whose word has a place in the order (0 for none)."""
    if word not in LINE_WORDS:
        return False
    own = LINE_WORDS.index(word)
    if own > NEXT_AT:
        return NEXT_AT <= place < TOLD_AT
    return own >= place and place != NEXT_AT


def read_row(parts):
    """The row that the parts behind the first word tell, None if they tell none."""
    if not parts or parts[0] not in ROW_LENGTHS:
        return None
    many = ROW_LENGTHS[parts[0]]
    if parts[0] != "op":
        numbers = read_numbers(parts[1:], many - 1)
        return None if numbers is None else (parts[0], *numbers)
    if len(parts) != many or parts[1] not in SIGNS:
        return None
    numbers = read_numbers(parts[2:], many - 2)
    return None if numbers is None else ("op", parts[1], *numbers)


def read_numbers(parts, many):
    """The numbers that parts tell, None if they are not so many (if many is given) or are no numbers."""
    if many is not None and len(parts) != many:
        return None
    if not all([is_short_number(part) for part in parts]):
        return None
    return tuple([int(part) for part in parts])
