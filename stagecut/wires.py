"""Nets in the making."""


class Wires:
    """Nodes, whose literals are made simpler as they come, none of them there twice.

    A node is None for the constant and for what is given from outside, a pair of literals for an and.
    """

    def __init__(self):
        self.nodes = [None]
        self._literals = {}

    def new_leaf(self):
        """The literal of a new node that is given from outside."""
        self.nodes.append(None)
        return 2 * len(self.nodes) - 2

    def both(self, one, other):
        """The literal that is 1 where two literals are."""
        low = min(one, other)
        high = max(one, other)
        if low == 0 or low ^ 1 == high:
            return 0
        if low == 1 or low == high:
            return high
        if (low, high) not in self._literals:
            self.nodes.append((low, high))
            self._literals[(low, high)] = 2 * len(self.nodes) - 2
        return self._literals[(low, high)]

    def any_of(self, one, other):
        """The literal that is 1 where one of two literals is."""
        return self.both(one ^ 1, other ^ 1) ^ 1

    def odd(self, one, other):
        """The literal that is 1 where just one of two literals is."""
        return self.both(self.any_of(one, other), self.both(one, other) ^ 1)

    def pick(self, test, one, other):
        """The literal that is as one where a test is 1, as another one elsewhere."""
        if one == other:
            return one
        return self.any_of(self.both(test, one), self.both(test ^ 1, other))

    def net(self, latches, nexts, outs):
        """The net of the ands that these literals hang on; latches has the leaf and the first value of each."""
        needed = self.hung_on(nexts + outs, {})
        own = {0: 0}
        for leaf, _ in latches:
            own[leaf >> 1] = 2 * len(own)
        ands = []
        for node in sorted(needed):
            if self.nodes[node] is not None:
                own[node] = 2 * len(own)
                ands.append(tuple([own[side >> 1] ^ (side & 1) for side in self.nodes[node]]))
        ends = [tuple([own[literal >> 1] ^ (literal & 1) for literal in literals]) for literals in (nexts, outs)]
        return (tuple([first for _, first in latches]), tuple(ands), ends[0], ends[1])

    def hung_on(self, literals, nexts):
        """The nodes that literals hang on, in a dict; also by way of the next literals that leaves have."""
        found = {}
        todo = [literal >> 1 for literal in literals]
        while todo:
            node = todo.pop()
            if node in found:
                continue
            found[node] = True
            if self.nodes[node] is not None:
                todo.extend([side >> 1 for side in self.nodes[node]])
            elif 2 * node in nexts:
                todo.append(nexts[2 * node] >> 1)
        return found
