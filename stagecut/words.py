"""What the operations give, and the widths of what they give."""

MOST_WIDTH = 32
# Of the addresses of files, roms and memories.
MOST_BITS = 6

SAME_WIDTH = ("+", "-", "*", "&", "|", "^")
TESTS = ("==", "<")
SHIFTS = ("<<", ">>")
SIGNS = ("+", "-", "*", "&", "|", "^", "==", "<", "<<", ">>")


def mask(width):
    """The greatest word of a width."""
    return (1 << width) - 1


def added(one, other, width):
    return (one + other) & mask(width)


def taken(one, other, width):
    return (one - other) & mask(width)


def multiplied(one, other, width):
    return (one * other) & mask(width)


def both_bits(one, other, _):
    return one & other


def any_bits(one, other, _):
    return one | other


def odd_bits(one, other, _):
    return one ^ other


def same(one, other, _):
    return int(one == other)


def below(one, other, _):
    return int(one < other)


def shifted_up(one, other, width):
    # A large shift would make a huge number on the way.
    return (one << other) & mask(width) if other < width else 0


def shifted_down(one, other, width):
    return one >> other if other < width else 0


OPERATIONS = {
    "+": added, "-": taken, "*": multiplied, "&": both_bits, "|": any_bits, "^": odd_bits,
    "==": same, "<": below, "<<": shifted_up, ">>": shifted_down,
}


def worked(node, sides, widths):
    """The value of a node other than a leaf or a reading, from the values and widths of its parts."""
    kind = node[0]
    if kind == "op":
        operation = OPERATIONS[node[1]]
        return operation(sides[0], sides[1], widths[0])
    if kind == "pick":
        return sides[1] if sides[0] else sides[2]
    if kind == "not":
        return sides[0] ^ mask(widths[0])
    if kind == "wide":
        return sides[0] & mask(node[2])
    if kind == "part":
        return (sides[0] >> node[2]) & mask(node[3] - node[2] + 1)
    return (sides[0] << widths[1]) | sides[1]


def fitted_width(node, widths):
    """The width of a node other than a leaf or a reading, from those of its parts; 0 if they do not fit."""
    kind = node[0]
    if kind == "op":
        return op_width(node[1], widths[0], widths[1])
    if kind == "pick":
        return widths[1] if widths[0] == 1 and widths[1] == widths[2] else 0
    if kind == "not":
        return widths[0]
    if kind == "wide":
        return node[2] if 1 <= node[2] <= MOST_WIDTH else 0
    if kind == "part":
        return node[3] - node[2] + 1 if 0 <= node[2] <= node[3] < widths[0] else 0
    return widths[0] + widths[1] if widths[0] + widths[1] <= MOST_WIDTH else 0


def op_width(sign, one, other):
    """The width of an operation with two sides, 0 if they do not fit."""
    if sign in SHIFTS:
        return one
    if one != other:
        return 0
    if sign in TESTS:
        return 1
    return one if sign in SAME_WIDTH else 0
