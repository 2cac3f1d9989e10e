"""What nodes have, said as clauses."""

# Kinds of nodes, each with its literals: an and of two; a test, and what is so where it is 1 and elsewhere.
AND = "and"
PICK = "pick"


class Saying:
    """Variables for nodes of nets in the making, and the clauses that say how they hang together.

    The first variables are those of the leaves, and behind them come those of the told literals.
    """

    def __init__(self, wires, leaves, told):
        self._wires = wires
        self.clauses = []
        self.many = len(leaves) + len(told)
        # For each node its variable, or the negative of it; and for the ands their kind and literals.
        self._names = {leaf >> 1: 1 + at for at, leaf in enumerate(leaves)}
        self.kinds = {}
        for at, literal in enumerate(told):
            self._tell(1 + len(leaves) + at, literal)
        self.say([literal for literal in told if literal > 1])

    def name(self, literal):
        """The literal of the variable of a node, in clauses."""
        name = self._names[literal >> 1]
        return -name if literal & 1 else name

    def say(self, literals):
        """Says what all nodes have on which literals hang."""
        found = self._new_kinds(literals)
        for node in sorted(found):
            self.kinds[node] = found[node]
            if node not in self._names:
                self._name_new(node)
            kind, *sides = found[node]
            parts = [self.name(side) for side in sides]
            self.clauses.extend(pick_clauses(self._names[node], parts) if kind == PICK
                                else and_clauses(self._names[node], parts))

    def _tell(self, variable, literal):
        """Lets a variable be as a literal."""
        if literal < 2:
            self.clauses.append((variable if literal else -variable,))
        elif literal >> 1 in self._names:
            self.clauses.extend([(-variable, self.name(literal)), (variable, -self.name(literal))])
        else:
            self._names[literal >> 1] = -variable if literal & 1 else variable

    def _name_new(self, node):
        """Gives a node a variable of its own."""
        self.many += 1
        self._names[node] = self.many

    def _new_kinds(self, literals):
        """The kinds and literals of the ands on which literals hang, but of those that were said."""
        found = {}
        todo = [literal >> 1 for literal in literals]
        while todo:
            node = todo.pop()
            if node in found or node in self.kinds:
                continue
            if self._wires.nodes[node] is not None:
                found[node] = self._kind(node)
                todo.extend([side >> 1 for side in found[node][1:]])
            elif node == 0 and node not in self._names:
                self._name_new(node)
                self.clauses.append((-self.many,))
        return found

    def _kind(self, node):
        """The kind of an and, and its literals."""
        one, other = self._wires.nodes[node]
        sides = self._wires.nodes[one >> 1]
        others = self._wires.nodes[other >> 1]
        if one & other & 1 and sides is not None and others is not None:
            for test, worth in (sides, sides[::-1]):
                for other_test, other_worth in (others, others[::-1]):
                    if test ^ 1 == other_test:
                        return (PICK, test, worth ^ 1, other_worth ^ 1)
        return (AND, one, other)


def and_clauses(name, parts):
    """The clauses that say that a literal holds where two do."""
    one, other = parts
    return [(-name, one), (-name, other), (name, -one, -other)]


def pick_clauses(name, parts):
    """The clauses that say that a literal is as one where a test holds, as another one elsewhere."""
    test, one, other = parts
    found = [(-test, -one, name), (-test, one, -name), (test, -other, name), (test, other, -name)]
    if abs(one) != abs(other):
        # They follow from the others, but tell something even where the test is open.
        found.extend([(-one, -other, name), (one, other, -name)])
    return found
