"""Nets as rows of bytes."""

from stagecut.errors import BadImage
from stagecut.gates import is_net
from stagecut.numerals import NumberReader, number_bytes


def write_net(net):
    """The row of bytes of a net."""
    firsts, ands, nexts, outs = net
    numbers = [len(firsts), len(ands), len(outs)]
    numbers.extend([2 * literal + first for first, literal in zip(firsts, nexts)])
    numbers.extend(outs)
    for at, (one, other) in enumerate(ands):
        own = own_literal(len(firsts), at)
        numbers.extend([own - 1 - one, own - 1 - other])
    return number_bytes(numbers)


def read_net(row):
    """The net of a row of bytes."""
    reader = NumberReader(row)
    latches, ands, outs = [reader.next_number() for _ in range(3)]
    pairs = [divmod(number, 2) for number in reader.next_numbers(latches)]
    told = tuple(reader.next_numbers(outs))
    found = []
    for at in range(ands):
        own = own_literal(latches, at)
        found.append((own - 1 - reader.next_number(), own - 1 - reader.next_number()))
    net = (tuple([first for _, first in pairs]), tuple(found), tuple([literal for literal, _ in pairs]), told)
    if not reader.is_done() or not is_net(net):
        raise BadImage()
    return net


def own_literal(latches, at):
    """The literal of the node of the and with a number."""
    return 2 * (1 + latches + at)
