"""Nets as texts."""

from stagecut.digits import is_number, number_of
from stagecut.errors import BadLine
from stagecut.gates import is_net
from stagecut.lines import text_of, whole_lines


def print_net(net):
    """The text of a net."""
    firsts, ands, nexts, outs = net
    lines = [("net", len(firsts), len(outs), len(ands))]
    lines.extend([("latch", first, literal) for first, literal in zip(firsts, nexts)])
    lines.extend([("told", literal) for literal in outs])
    lines.extend([("and", one, other) for one, other in ands])
    return text_of([" ".join([str(part) for part in line]) for line in lines])


def parse_net(text):
    """The net that a text tells."""
    lines = whole_lines(text)
    head = line_numbers(lines[0], "net", 3)
    if head is None or len(lines) != 1 + sum(head):
        raise BadLine(1)
    latches, told, ands = head
    forms = [("latch", 2)] * latches + [("told", 1)] * told + [("and", 2)] * ands
    found = []
    for at, (word, many) in enumerate(forms):
        numbers = line_numbers(lines[at + 1], word, many)
        if numbers is None:
            raise BadLine(at + 2)
        found.append(numbers)
    firsts = tuple([first for first, _ in found[:latches]])
    nexts = tuple([literal for _, literal in found[:latches]])
    outs = tuple([numbers[0] for numbers in found[latches:latches + told]])
    net = (firsts, tuple(found[latches + told:]), nexts, outs)
    if not is_net(net):
        raise BadLine(len(lines))
    return net


def line_numbers(line, word, many):
    """The numbers behind the first word of a line, None if it is another word or they are not so many."""
    first, *parts = line.split(" ")
    if first != word or len(parts) != many or not all([is_number(part) for part in parts]):
        return None
    return tuple([number_of(part) for part in parts])
