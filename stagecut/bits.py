"""Operations over words whose bits are literals of nodes, low bits first."""


def literal_bits(worth, width):
    """The bits of a word that is known: the literals 0 and 1 are its values."""
    return [(worth >> at) & 1 for at in range(width)]


def word_of(bits):
    """The word with these bits."""
    return sum([bit << at for at, bit in enumerate(bits)])


def turned_bits(one):
    """All bits turned."""
    return [bit ^ 1 for bit in one]


def sum_bits(wires, one, other, carry):
    """The bits of a sum with a carry, as many as one has."""
    found = []
    for bit, second in zip(one, other):
        half = wires.odd(bit, second)
        found.append(wires.odd(half, carry))
        carry = wires.any_of(wires.both(bit, second), wires.both(half, carry))
    return found


def added_bits(wires, one, other):
    return sum_bits(wires, one, other, 0)


def taken_bits(wires, one, other):
    return sum_bits(wires, one, turned_bits(other), 1)


def multiplied_bits(wires, one, other):
    """The low bits of a product: a sum of one, moved up to the bits of the other one."""
    found = literal_bits(0, len(one))
    for at, bit in enumerate(other):
        part = [wires.both(bit, low) for low in one[:len(one) - at]]
        found = found[:at] + added_bits(wires, found[at:], part)
    return found


def both_bits(wires, one, other):
    return [wires.both(bit, second) for bit, second in zip(one, other)]


def any_bits(wires, one, other):
    return [wires.any_of(bit, second) for bit, second in zip(one, other)]


def odd_bits(wires, one, other):
    return [wires.odd(bit, second) for bit, second in zip(one, other)]


def same_bits(wires, one, other):
    """The one bit that tells whether two words are the same."""
    found = 1
    for bit, second in zip(one, other):
        found = wires.both(found, wires.odd(bit, second) ^ 1)
    return [found]


def below_bits(wires, one, other):
    """The one bit that tells whether a word is less than another one."""
    found = 0
    for bit, second in zip(one, other):
        found = wires.pick(wires.odd(bit, second), second, found)
    return [found]


def shifted_up_bits(wires, one, other):
    return shifted_down_bits(wires, one[::-1], other)[::-1]


def shifted_down_bits(wires, one, other):
    """The bits moved down by a number: by each of its bits one behind the other."""
    found = one
    for at, bit in enumerate(other):
        # A shift by far more than the width moves no other bits than one by the width.
        far = min(1 << min(at, len(one)), len(one))
        moved = found[far:] + [0] * far
        found = picked_bits(wires, bit, moved, found)
    return found


def picked_bits(wires, test, one, other):
    """The bits of one where a test is 1, those of another one elsewhere."""
    return [wires.pick(test, bit, second) for bit, second in zip(one, other)]


OPERATIONS = {
    "+": added_bits, "-": taken_bits, "*": multiplied_bits, "&": both_bits, "|": any_bits, "^": odd_bits,
    "==": same_bits, "<": below_bits, "<<": shifted_up_bits, ">>": shifted_down_bits,
}


def worked_bits(wires, row, sides):
    """The bits of a row of a circuit other than a literal, a register or a look, from those of its parts."""
    kind = row[0]
    if kind == "op":
        operation = OPERATIONS[row[1]]
        return operation(wires, sides[0], sides[1])
    if kind == "pick":
        return picked_bits(wires, sides[0][0], sides[1], sides[2])
    if kind == "not":
        return turned_bits(sides[0])
    if kind == "wide":
        return (sides[0] + literal_bits(0, row[2]))[:row[2]]
    if kind == "part":
        return sides[0][row[2]:row[3] + 1]
    return sides[1] + sides[0]
