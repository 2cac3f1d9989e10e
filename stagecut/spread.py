"""Changes of nodes of nets, taken on to the ands behind them."""

from heapq import heappop, heappush


class Spread:
    """What each node of a net has; what an and has is combined from what its literals have.

    Only those ands are worked out anew of which a node has changed, each once for all that changes at a time.
    """

    def __init__(self, net, firsts, combine):
        self._ands = net[1]
        self._ahead = 1 + len(net[0])
        self._combine = combine
        # How many nodes changed, and how many ands were worked out anew.
        self.turns = 0
        self.worked_out = 0
        self._worths = [0, *firsts]
        # The ands that name each node.
        self._named_by = [[] for _ in range(self._ahead + len(net[1]))]
        for at, (one, other) in enumerate(net[1]):
            self._worths.append(combine(self.worth_of(one), self.worth_of(other)))
            self._named_by[one >> 1].append(self._ahead + at)
            self._named_by[other >> 1].append(self._ahead + at)

    def worth_of(self, literal):
        """What a literal has."""
        return self._worths[literal >> 1] ^ (literal & 1)

    def change(self, changed):
        """Gives nodes what a dict tells for them, and works out anew what hangs on them."""
        queue = []
        for node, worth in changed.items():
            self._set(node, worth, queue)
        last = 0
        while queue:
            node = heappop(queue)
            # An and stands in the queue once for each of its literals that changed.
            if node != last:
                last = node
                self.worked_out += 1
                one, other = self._ands[node - self._ahead]
                combine = self._combine
                self._set(node, combine(self.worth_of(one), self.worth_of(other)), queue)

    def _set(self, node, worth, queue):
        """Gives a node what it has; if that is something else, the ands that name it are to be worked out."""
        if worth != self._worths[node]:
            self._worths[node] = worth
            self.turns += 1
            for named in self._named_by[node]:
                heappush(queue, named)
