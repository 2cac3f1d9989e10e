"""Nets run by what changes in them."""

from heapq import heappop, heappush

from stagecut.gates import literal_value, node_values


class Changing:
    """The values of the nodes of a net, of which only those are worked out anew whose nodes have turned."""

    def __init__(self, net):
        self._net = net
        self.worths = node_values(net, net[0])
        self.turns = 0
        self.worked_out = 0
        # The ands that name each node.
        self._named_by = [[] for _ in self.worths]
        for at, part in enumerate(net[1]):
            node = 1 + len(net[0]) + at
            for literal in part:
                self._named_by[literal >> 1].append(node)

    def told_now(self):
        """What is told in this cycle."""
        return tuple([literal_value(self.worths, literal) for literal in self._net[3]])

    def go_on(self):
        """Goes on to the next cycle."""
        state = [literal_value(self.worths, literal) for literal in self._net[2]]
        queue = []
        for at, worth in enumerate(state):
            self._set(1 + at, worth, queue)
        last = 0
        while queue:
            node = heappop(queue)
            # An and stands in the queue once for each of its literals that turned.
            if node != last:
                last = node
                self.worked_out += 1
                one, other = self._net[1][node - 1 - len(state)]
                self._set(node, literal_value(self.worths, one) & literal_value(self.worths, other), queue)

    def _set(self, node, worth, queue):
        """Gives a node its value; if it turned, the ands that name it are to be worked out."""
        if worth != self.worths[node]:
            self.worths[node] = worth
            self.turns += 1
            for named in self._named_by[node]:
                heappush(queue, named)


def run_events(net, cycles):
    """What is told in each cycle, how many nodes turned behind these cycles, and how many ands were worked out."""
    changing = Changing(net)
    told = []
    for _ in range(cycles):
        told.append(changing.told_now())
        changing.go_on()
    return tuple(told), changing.turns, changing.worked_out
