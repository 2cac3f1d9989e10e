"""Looking whether something can be that clauses ask of nodes of nets.

Nodes that have the same values in many cases are shown to be alike, one behind the other, each with the help of
those ahead of it. So what is asked of the last ones becomes easy.
"""

from stagecut.cases import Cases, Mixer
from stagecut.search import Search
from stagecut.words import mask

# How many cases are looked at, at first and near to each one that shows two nodes to differ.
CASES_AT_FIRST = 256
CASES_NEAR = 32
# How often it may clash until it is left open whether two nodes are alike, and how often that may be for one node.
CLASHES_A_PAIR = 150
OPEN_PAIRS = 2


class Sweep:
    """The nodes that clauses speak of, a search for values, and which nodes are alike.

    The ends are clauses, told by nodes, of each of which something must hold.
    """

    def __init__(self, saying, leaves, ends, clauses):
        self._saying = saying
        self._leaves = leaves
        self._ends = ends
        self._search = Search(saying.many, clauses)
        self._mixer = Mixer()
        self._cases = Cases(saying, leaves)
        # The nodes so far that are as none ahead of them, by what they have in the cases.
        self._unlike = {}
        # For each node that is as one ahead of it, or as its other value, the literal of that one.
        self._alike = {}
        self._found = None

    def found_values(self):
        """Values of the leaves for which the ends hold, None if there are none."""
        self._take_cases([self._mixer.bits(CASES_AT_FIRST) for _ in self._leaves], CASES_AT_FIRST)
        for node in [0, *[leaf >> 1 for leaf in self._leaves]]:
            self._keep(node)
        for node in sorted(self._saying.kinds):
            if self._found is None and not self._search.is_lost:
                self._look_at(node)
        if self._found is None:
            self._search.aim_at({at: True for at in range(1, self._saying.many + 1)})
            if self._search.is_found():
                self._found = [int(self._search.holds(1 + at)) for at in range(len(self._leaves))]
        return self._found

    def found_proof(self):
        """The proof that there are no such values."""
        return tuple(self._search.proof)

    def _take_cases(self, leaf_worths, many):
        """Adds cases, and looks whether the ends hold in one of them."""
        self._cases.add(leaf_worths, many)
        self._found = self._cases.met(self._ends)

    def _keep(self, node):
        """Keeps a node to compare later ones with."""
        self._unlike.setdefault(self._cases.key(node)[0], []).append(node)

    def _look_at(self, node):
        """Shows that a node is as one ahead of it, or keeps it."""
        left_open = {}
        while len(left_open) < OPEN_PAIRS and self._found is None:
            worth, is_turned = self._cases.key(node)
            others = [other for other in self._unlike.get(worth, []) if other not in left_open]
            if not others:
                break
            literal = 2 * others[0] + (is_turned ^ self._cases.key(others[0])[1])
            is_alike = self._is_alike(node, literal)
            if is_alike:
                self._alike[node] = literal
                return
            if is_alike is None:
                left_open[others[0]] = True
            else:
                self._take_difference()
        self._keep(node)

    def _is_alike(self, node, literal):
        """True if it is shown that a node is as a literal, False if it is not, None if that is left open."""
        is_aimed = False
        for clause in self._clauses_of(node, literal):
            is_found = self._search.found_with(clause, 0)
            if is_found is None:
                if not is_aimed:
                    self._search.aim_at(self._variables_of([node, literal >> 1]))
                    is_aimed = True
                is_found = self._search.found_with(clause, CLASHES_A_PAIR)
            if is_found is None:
                return None
            if is_found:
                return False
            self._search.add(clause)
        return True

    def _clauses_of(self, node, literal):
        """The clauses that say that a node is as a literal."""
        name = self._saying.name(2 * node)
        if literal < 2:
            return [(name if literal else -name,)]
        other = self._saying.name(literal)
        return [(-name, other), (name, -other)]

    def _variables_of(self, nodes):
        """The variables of nodes and of all on which they hang; for nodes that are alike only what the first hangs on.

        With values of these that clash nowhere, all others can have values, too.
        """
        found = {}
        seen = {}
        todo = list(nodes)
        while todo:
            node = todo.pop()
            if node in seen or node == 0:
                continue
            seen[node] = True
            found[abs(self._saying.name(2 * node))] = True
            if node in self._alike:
                todo.append(self._alike[node] >> 1)
            else:
                todo.extend([side >> 1 for side in self._saying.kinds.get(node, (None,))[1:]])
        return found

    def _take_difference(self):
        """Adds the case that the search has found, and cases near to it; so two nodes have other values in it."""
        leaf_worths = []
        for at in range(len(self._leaves)):
            worth = self._mixer.bits(CASES_NEAR)
            if not self._search.is_open(1 + at):
                # The first case is just what was found, in each other one some values are turned.
                worth &= self._mixer.bits(CASES_NEAR) & self._mixer.bits(CASES_NEAR) & ~1
                worth ^= mask(CASES_NEAR) if self._search.holds(1 + at) else 0
            leaf_worths.append(worth)
        self._take_cases(leaf_worths, CASES_NEAR)
        nodes = [node for alike in self._unlike.values() for node in alike]
        self._unlike = {}
        for node in nodes:
            self._keep(node)
