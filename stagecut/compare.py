"""Nets compared for every state."""

from stagecut.diagrams import FALSE, Diagrams
from stagecut.errors import TooMany


class Drawn:
    """The nodes of decision diagrams for those of a net; variables tells that of each latch, by its node."""

    def __init__(self, diagrams, net, variables):
        self._diagrams = diagrams
        self._net = net
        self._variables = variables
        self._drawn = {0: FALSE}

    def literal(self, literal):
        """The node for a literal."""
        todo = [literal >> 1]
        while todo:
            more = [node for node in ahead(self._net, todo[-1]) if node not in self._drawn]
            if more:
                todo.extend(more)
            else:
                self._draw(todo.pop())
        return self._turned(literal)

    def _draw(self, node):
        """Draws a node, if it is not drawn, behind those that it names."""
        if node in self._variables:
            self._drawn[node] = self._diagrams.variable(self._variables[node])
        elif node not in self._drawn:
            one, other = self._net[1][node - 1 - len(self._net[0])]
            self._drawn[node] = self._diagrams.both(self._turned(one), self._turned(other))

    def _turned(self, literal):
        """The node for a literal of a node that is drawn."""
        drawn = self._drawn[literal >> 1]
        return self._diagrams.no(drawn) if literal & 1 else drawn


def ahead(net, node):
    """The nodes that a node of a net names."""
    at = node - 1 - len(net[0])
    return [literal >> 1 for literal in net[1][at]] if at >= 0 else []


def difference(one, other, most):
    """The first of the next and told literals that differs, with the least state for it; None if none does."""
    try:
        return difference_by(one, other, most, met_latches((one, other)))
    except TooMany:
        # Some nets have small diagrams only where the variables are in the order of the latches.
        return difference_by(one, other, most, list(range(1, 1 + len(one[0]))))


def difference_by(one, other, most, latches):
    """What difference gives, with variables for these latches in this order."""
    diagrams = Diagrams(most)
    variables = {latch: at for at, latch in enumerate(latches)}
    first = Drawn(diagrams, one, variables)
    second = Drawn(diagrams, other, variables)
    for at, (literal, other_literal) in enumerate(zip(one[2] + one[3], other[2] + other[3])):
        found = diagrams.differ(first.literal(literal), second.literal(other_literal))
        if found != FALSE:
            return at, least_state(diagrams, found, variables, len(one[0]))
    return None


def met_latches(nets):
    """The latches on which something next or told hangs, in the order in which one meets them.

    Diagrams are small if those stand together that work together, as the bits with one number of two words do.
    """
    found = {}
    for net in nets:
        seen = {}
        todo = [literal >> 1 for literal in (net[2] + net[3])[::-1]]
        while todo:
            node = todo.pop()
            if node not in seen:
                seen[node] = True
                if 0 < node <= len(net[0]):
                    found[node] = True
                todo.extend(sorted(ahead(net, node), reverse=True))
    return list(found)


def least_state(diagrams, part, variables, latches):
    """The least state in which a node, which is not 0, is 1."""
    state = []
    fixed = {}
    for latch in range(1, latches + 1):
        if latch not in variables:
            state.append(0)
            continue
        at = variables[latch]
        fixed[at] = 0
        if not diagrams.can_be(part, fixed):
            fixed[at] = 1
        state.append(fixed[at])
    return tuple(state)
