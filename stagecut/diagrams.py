"""Decision diagrams."""

from stagecut.errors import TooMany

FALSE = 0
TRUE = 1


class Diagrams:
    """Nodes over variables, one for each function; the constants are 0 and 1."""

    def __init__(self, most):
        self._most = most
        # For each node but the constants (variable, node where it is 0, node where it is 1).
        self._nodes = [None, None]
        self._numbers = {}
        # What was worked out so far: by three nodes what a pick is, by two how they differ.
        self._kept = {}

    def variable(self, at):
        """The node of a variable."""
        return self._node(at, FALSE, TRUE)

    def pick(self, test, one, other):
        """The node that is as one where a test is 1, as another one elsewhere."""
        return self._combined((test, one, other))

    def no(self, part):
        """The node that is 1 where a node is 0."""
        return self.differ(TRUE, part)

    def both(self, one, other):
        """The node that is 1 where two nodes are."""
        return self.pick(one, other, FALSE)

    def differ(self, one, other):
        """The node that is 1 where two nodes differ."""
        return self._combined((one, other))

    def least(self, part, many):
        """The least values of the first variables at which a node, which is not 0, is 1."""
        found = [0] * many
        while part > TRUE:
            at, low, high = self._nodes[part]
            found[at] = int(low == FALSE)
            part = high if low == FALSE else low
        return tuple(found)

    def count(self, part, many):
        """At how many tuples of values of the first variables a node is 1."""
        # For each node at how many values of its own variable and the later ones.
        found = {FALSE: 0, TRUE: 1}
        for node in self._below(part):
            at, low, high = self._nodes[node]
            found[node] = sum([found[half] << (self._level(half, many) - at - 1) for half in (low, high)])
        return found[part] << self._level(part, many)

    def can_be(self, part, fixed):
        """True if a node is 1 for some values of the variables, of which some are fixed."""
        seen = {}
        todo = [part]
        while todo:
            node = todo.pop()
            if node == TRUE:
                return True
            if node != FALSE and node not in seen:
                seen[node] = True
                at, *halves = self._nodes[node]
                todo.extend([halves[fixed[at]]] if at in fixed else halves)
        return False

    def _level(self, node, many):
        """The variable of a node; behind all variables for the constants."""
        return many if node <= TRUE else self._nodes[node][0]

    def _below(self, part):
        """The nodes of which a node consists but the constants, each behind those that it names."""
        found = {}
        todo = [part]
        while todo:
            node = todo.pop()
            if node > TRUE and node not in found:
                found[node] = True
                todo.extend(self._nodes[node][1:])
        return sorted(found)

    def _node(self, at, low, high):
        """The node that is low where a variable is 0, high where it is 1."""
        if low == high:
            return low
        key = (at, low, high)
        if key not in self._numbers:
            if len(self._nodes) >= self._most:
                raise TooMany()
            self._numbers[key] = len(self._nodes)
            self._nodes.append(key)
        return self._numbers[key]

    def _combined(self, first):
        """What nodes are together, worked out from their halves at the first variable of all of them."""
        todo = [ordered(first)]
        while todo:
            sides = todo[-1]
            if self._known(sides) is None:
                at = min([self._nodes[side][0] for side in sides if side > TRUE])
                halves = [ordered(tuple([self._half(side, at, turn) for side in sides])) for turn in (1, 2)]
                low, high = [self._known(half) for half in halves]
                if low is None or high is None:
                    todo.extend(halves)
                    continue
                self._kept[sides] = self._node(at, low, high)
            todo.pop()
        return self._known(ordered(first))

    def _known(self, sides):
        """What a pick, or how two nodes differ, if it is known at once or was worked out; otherwise None."""
        if len(sides) == 2:
            if sides[0] == sides[1]:
                return FALSE
            return sides[1] if sides[0] == FALSE else self._kept.get(sides)
        test, one, other = sides
        if test <= TRUE:
            return one if test else other
        if one == other:
            return one
        return test if one == TRUE and other == FALSE else self._kept.get(sides)

    def _half(self, side, at, turn):
        """A node where a variable, which is none behind its own one, is 0 (turn 1) or 1 (turn 2)."""
        if side <= TRUE or self._nodes[side][0] != at:
            return side
        return self._nodes[side][turn]


def ordered(sides):
    """Nodes that are combined, in one order where it does not matter."""
    if len(sides) == 2 or sides[2] == FALSE:
        return (min(sides[0], sides[1]), max(sides[0], sides[1]), *sides[2:])
    return sides
