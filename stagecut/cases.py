"""Nodes of nets in the making looked at in many cases at once."""

from stagecut.saying import PICK
from stagecut.words import mask

# The numbers by which bits are mixed, always in the same way.
MIX_FACTOR = 6364136223846793005
MIX_MORE = 1442695040888963407
MIX_MASK = 18446744073709551615


class Mixer:
    """Bits that look as if they came by chance."""

    def __init__(self):
        self._now = 1

    def bits(self, many):
        """A number of so many bits."""
        found = 0
        for _ in range(0, many, 32):
            self._now = (self._now * MIX_FACTOR + MIX_MORE) & MIX_MASK
            found = (found << 32) | (self._now >> 32)
        return found & mask(many)


class Cases:
    """For each node the values that it has in some cases, as a number with one bit for each case."""

    def __init__(self, saying, leaves):
        self._kinds = saying.kinds
        self._nodes = sorted(saying.kinds)
        self._leaves = leaves
        self._many = 0
        self._worths = {node: 0 for node in [0, *[leaf >> 1 for leaf in leaves], *self._nodes]}

    def add(self, leaf_worths, many):
        """Adds so many cases, told by the values of the leaves."""
        full = mask(many)
        found = {0: 0}
        for leaf, worth in zip(self._leaves, leaf_worths):
            found[leaf >> 1] = worth
        for node in self._nodes:
            kind, *sides = self._kinds[node]
            parts = [found[side >> 1] ^ (full if side & 1 else 0) for side in sides]
            if kind == PICK:
                found[node] = (parts[0] & parts[1]) | (parts[2] & ~parts[0])
            else:
                found[node] = parts[0] & parts[1]
        for node, worth in found.items():
            self._worths[node] |= worth << self._many
        self._many += many

    def key(self, node):
        """What a node has in the cases, the same for one that always has the other value; and whether it was turned."""
        worth = self._worths[node]
        return (self._turned(worth), 1) if worth & 1 else (worth, 0)

    def met(self, ends):
        """The values of the leaves in a case in which one literal of each end holds, None if there is none."""
        found = mask(self._many)
        for literals in ends:
            met = 0
            for literal in literals:
                worth = self._worths[literal >> 1]
                met |= self._turned(worth) if literal & 1 else worth
            found &= met
        if found == 0:
            return None
        at = found.bit_length() - 1
        return [(self._worths[leaf >> 1] >> at) & 1 for leaf in self._leaves]

    def _turned(self, worth):
        """The other values in all cases."""
        return worth ^ mask(self._many)
