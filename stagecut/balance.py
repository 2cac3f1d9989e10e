"""Nets made flatter."""

from heapq import heappop, heappush

from stagecut.wires import Wires


class Flatter:
    """The nodes of a net laid out anew: ands of many literals as flat as their levels allow."""

    def __init__(self, net):
        self._net = net
        self._ahead = 1 + len(net[0])
        self.wires = Wires()
        # For each node the literal in its place, for each of the new nodes its level.
        self._places = {0: 0}
        self._levels = {0: 0}
        self.latches = []
        for at, first in enumerate(net[0]):
            leaf = self.wires.new_leaf()
            self.latches.append((leaf, first))
            self._places[1 + at] = leaf
            self._levels[leaf >> 1] = 0
        heads = self._heads()
        for node in sorted(heads):
            self._places[node] = self._laid_out(self._sides(node, heads))

    def place_of(self, literal):
        """The literal in the place of one."""
        return self._places[literal >> 1] ^ (literal & 1)

    def _heads(self):
        """The ands that are not just a part of one other and: told, next, turned round, or named more than once."""
        named = {}
        heads = {}
        todo = list(self._net[2] + self._net[3])
        for literal in todo:
            heads[literal >> 1] = True
        while todo:
            node = todo.pop() >> 1
            named[node] = named.get(node, 0) + 1
            if named[node] == 1 and node >= self._ahead:
                todo.extend(self._net[1][node - self._ahead])
        for node in named:
            if node >= self._ahead:
                for side in self._net[1][node - self._ahead]:
                    if side & 1 or named[side >> 1] > 1:
                        heads[side >> 1] = True
        return {node: True for node in heads if node >= self._ahead}

    def _sides(self, head, heads):
        """The literals, in their new places, of which an and is the and."""
        found = []
        todo = list(self._net[1][head - self._ahead])
        while todo:
            literal = todo.pop()
            node = literal >> 1
            if node < self._ahead or node in heads:
                found.append(self.place_of(literal))
            else:
                todo.extend(self._net[1][node - self._ahead])
        return found

    def _laid_out(self, sides):
        """The literal of the and of literals, of which those of the least levels come together first."""
        known = {side: True for side in sides}
        if any([side ^ 1 in known for side in known]):
            return 0
        # A list in ascending order is a queue as heappop asks for.
        queue = sorted([(self._levels[side >> 1], side) for side in known])
        while len(queue) > 1:
            _, one = heappop(queue)
            _, other = heappop(queue)
            heappush(queue, self._both(one, other))
        return queue[0][1]

    def _both(self, one, other):
        """The level and the literal of the and of two literals."""
        literal = self.wires.both(one, other)
        node = literal >> 1
        if node not in self._levels:
            self._levels[node] = 1 + max(self._levels[one >> 1], self._levels[other >> 1])
        return self._levels[node], literal


def balance(net):
    """A net with the same latches that tells the same, and is flatter."""
    flatter = Flatter(net)
    nexts = [flatter.place_of(literal) for literal in net[2]]
    return flatter.wires.net(flatter.latches, nexts, [flatter.place_of(literal) for literal in net[3]])
