"""What can be said in a shorter way, without looking at what is read."""

from stagecut.words import fitted_width, mask, worked


def shorter(node, known, widths, alike):
    """What a node other than a leaf or a reading comes down to, or None.

    The values of its parts stand in known, None for those that are no literals; alike tells if its last two
    parts are the same. The answer is ("lit", value, width), or ("same", at) for the part with this number.
    """
    if all(worth is not None for worth in known):
        return ("lit", worked(node, known, widths), fitted_width(node, widths))
    kind = node[0]
    if kind == "pick":
        return shorter_pick(known, alike)
    if kind == "op":
        return shorter_op(node[1], known, widths[0], alike)
    if kind == "wide" and node[2] == widths[0]:
        return ("same", 0)
    if kind == "part" and node[2] == 0 and node[3] == widths[0] - 1:
        return ("same", 0)
    return None


def shorter_pick(known, alike):
    """What a pick comes down to, or None."""
    if alike:
        return ("same", 1)
    if known[0] is None:
        return None
    return ("same", 1 if known[0] else 2)


def shorter_op(sign, known, width, alike):
    """What an operation with two sides comes down to, or None."""
    if alike:
        return shorter_alike(sign, width)
    one, other = known
    if sign in ("<<", ">>"):
        return shorter_shift(one, other, width)
    if other == neutral(sign, width):
        return ("same", 0)
    if sign != "-" and one == neutral(sign, width):
        return ("same", 1)
    lost = losing(sign, width)
    if lost is not None and (one == lost or other == lost):
        return ("lit", lost, width)
    if sign == "<" and other == 0:
        return ("lit", 0, 1)
    return None


def shorter_alike(sign, width):
    """What an operation comes down to whose sides are the same, or None."""
    if sign in ("&", "|"):
        return ("same", 0)
    if sign in ("-", "^"):
        return ("lit", 0, width)
    if sign == "==":
        return ("lit", 1, 1)
    if sign == "<":
        return ("lit", 0, 1)
    return None


def shorter_shift(one, other, width):
    """What a shift comes down to, or None."""
    if other == 0:
        return ("same", 0)
    if one == 0 or (other is not None and other >= width):
        return ("lit", 0, width)
    return None


def neutral(sign, width):
    """The side that leaves the other one as it is, -1 if there is none."""
    if sign in ("+", "-", "|", "^"):
        return 0
    if sign == "*":
        return 1
    return mask(width) if sign == "&" else -1


def losing(sign, width):
    """The side with which the other one does not matter, None if there is none."""
    if sign in ("*", "&"):
        return 0
    return mask(width) if sign == "|" else None
