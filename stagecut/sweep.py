"""Looking whether something can be that clauses ask of nodes of nets.

It is tried to show part by part that it cannot be. Where that takes too long, nodes on which it hangs are shown to be
alike that have the same values in many cases, one behind the other, each with the help of those ahead of it. All that
was shown makes the last search, for whatever is left, an easy one.
"""

from stagecut.cases import Cases, Mixer
from stagecut.saying import AND
from stagecut.search import Search
from stagecut.words import mask

# How many cases are looked at, at first and near to each one that was found.
CASES_AT_FIRST = 256
CASES_NEAR = 32
# How often it may clash until it is left open whether something can be: at first, and as it is tried once more.
CLASHES_AT_FIRST = 60
TIMES_MORE = 5
MOST_CLASHES = 10000
# Under how many tests something is shown part by part.
MOST_TESTS = 3
# How many of the parts may be left open until the others are not looked at.
MOST_OPEN_PARTS = 20


class Sweep:
    """The nodes that clauses speak of, a search for values, and what is shown so far.

    The ends are clauses, told by literals of nodes, of each of which something must hold.
    """

    def __init__(self, saying, leaves, ends, clauses):
        self._saying = saying
        self._leaves = leaves
        self._ends = ends
        # What may be shown not to hold. What the ends ahead of the last one ask holds in the search from the beginning.
        self._asked = [literal for literal in ends[-1] if literal > 1]
        self._search = Search(saying.many, clauses)
        self._mixer = Mixer()
        self._cases = Cases(saying, leaves)
        # The nodes that were looked at, and those of them that are as none ahead of them, by what they have in the
        # cases.
        self._met = {}
        self._unlike = {}
        # For each node that is as one ahead of it, or as its other value, the literal of that one.
        self._alike = {}
        self._clashes = CLASHES_AT_FIRST
        # Values of the leaves for which the ends hold.
        self._found = None

    def found_values(self):
        """Values of the leaves for which the ends hold, None if there are none."""
        self._take_cases([self._mixer.bits(CASES_AT_FIRST) for _ in self._leaves], CASES_AT_FIRST)
        for node in [0, *[leaf >> 1 for leaf in self._leaves]]:
            self._keep(node)
        for literal in self._asked:
            self._look_behind(literal)
        while self._clashes < MOST_CLASHES and not self._is_all_refuted():
            self._clashes *= TIMES_MORE
        if self._found is None:
            self._search.aim_at({at: True for at in range(1, self._saying.many + 1)})
            if self._search.is_found():
                self._found = [int(self._search.holds(1 + at)) for at in range(len(self._leaves))]
        return self._found

    def found_proof(self):
        """The proof that there are no such values."""
        return self._search.proof()

    def _goes_on(self):
        """True if nothing is decided so far."""
        return self._found is None and not self._search.is_lost()

    def _is_refuted(self, literal):
        """True if it is shown that a literal does not hold, or if nothing is to be shown any longer."""
        return not self._goes_on() or self._is_shown([], literal ^ 1)

    def _is_all_refuted(self):
        """True if nothing that is asked is left that may hold."""
        for literal in self._asked:
            if not self._is_refuted(literal):
                return False
        return True

    def _look_behind(self, literal):
        """Looks for what is alike among the nodes behind a literal, if it cannot be refuted without that."""
        if not self._is_refuted(literal):
            for node in self._nodes_behind(literal):
                if self._goes_on():
                    self._look_at(node)
            self._is_refuted(literal)

    def _is_shown(self, tests, literal):
        """True if it is shown that a literal holds where the tests do; what it consists of is shown first."""
        clause = (*[-self._saying.name(test) for test in tests], self._saying.name(literal))
        is_found = self._search.found_with(clause, 0)
        if is_found is None and len(tests) < MOST_TESTS and not self._are_parts_shown(tests, literal):
            return False
        if is_found is None:
            self._search.aim_at(self._variables_of([part >> 1 for part in [*tests, literal]]))
            is_found = self._search.found_with(clause, self._clashes)
        if is_found:
            self._take_difference()
        elif is_found is False:
            self._search.keep(clause)
        return is_found is False

    def _are_parts_shown(self, tests, literal):
        """False if a literal consists of parts, and not all of them are shown."""
        kind, *sides = self._kind_of(literal)
        if kind != AND:
            return True
        if literal & 1:
            # Of two that do not hold together, one is the test, and the other one's other value holds where it does.
            for test, other in (sides, sides[::-1]):
                if other & 1 and self._kind_of(other)[0] == AND:
                    return self._is_shown([*tests, test], other ^ 1)
            return True
        left_open = 0
        for part in self._parts(literal):
            if self._goes_on() and left_open < MOST_OPEN_PARTS and not self._is_shown(tests, part):
                left_open += 1
        return self._goes_on() and left_open == 0

    def _kind_of(self, literal):
        """The kind and the literals of the node of a literal."""
        return self._saying.kinds.get(literal >> 1, (None,))

    def _parts(self, literal):
        """The literals of which an and is the and."""
        found = []
        seen = {}
        todo = [literal]
        while todo:
            part = todo.pop()
            kind, *sides = self._kind_of(part)
            if part not in seen and kind == AND and not part & 1:
                todo.extend(sides[::-1])
            elif part not in seen:
                found.append(part)
            seen[part] = True
        return found

    def _nodes_behind(self, literal):
        """The ands on which that of a literal hangs and that were not looked at, each behind those that it names."""
        found = {}
        todo = [literal >> 1]
        while todo:
            node = todo.pop()
            if node not in found and node not in self._met and node in self._saying.kinds:
                found[node] = True
                todo.extend([side >> 1 for side in self._saying.kinds[node][1:]])
        return [node for node in sorted(found) if node != literal >> 1]

    def _look_at(self, node):
        """Shows that a node is as one that was looked at, or keeps it."""
        self._met[node] = True
        while self._found is None:
            worth, is_turned = self._cases.key(node)
            if worth not in self._unlike:
                break
            other = self._unlike[worth][0]
            literal = 2 * other + (is_turned ^ self._cases.key(other)[1])
            is_alike = self._is_alike(node, literal)
            if is_alike:
                self._alike[node] = literal
                return
            if is_alike is None:
                break
            self._take_difference()
        self._keep(node)

    def _keep(self, node):
        """Keeps a node to compare later ones with."""
        self._unlike.setdefault(self._cases.key(node)[0], []).append(node)

    def _is_alike(self, node, literal):
        """True if it is shown that a node is as a literal, False if it is not, None if that is left open."""
        is_aimed = False
        for clause in self._clauses_of(node, literal):
            is_found = self._search.found_with(clause, 0)
            if is_found is None:
                if not is_aimed:
                    self._search.aim_at(self._variables_of([node, literal >> 1]))
                    is_aimed = True
                is_found = self._search.found_with(clause, self._clashes)
            if is_found is None:
                return None
            if is_found:
                return False
            self._search.keep(clause)
        return True

    def _clauses_of(self, node, literal):
        """The clauses that say that a node is as a literal."""
        name = self._saying.name(2 * node)
        if literal < 2:
            return [(name if literal else -name,)]
        other = self._saying.name(literal)
        return [(-name, other), (name, -other)]

    def _variables_of(self, nodes):
        """The variables of nodes and of all on which they hang; for nodes that are alike only what the first hangs on.

        With values of these that clash nowhere, all others can have values, too.
        """
        found = {}
        seen = {}
        todo = list(nodes)
        while todo:
            node = todo.pop()
            if node in seen or node == 0:
                continue
            seen[node] = True
            found[abs(self._saying.name(2 * node))] = True
            if node in self._alike:
                todo.append(self._alike[node] >> 1)
            else:
                todo.extend([side >> 1 for side in self._kind_of(2 * node)[1:]])
        return found

    def _take_cases(self, leaf_worths, many):
        """Adds cases, and looks whether the ends hold in one of them."""
        self._cases.add(leaf_worths, many)
        self._found = self._cases.met(self._ends)

    def _take_difference(self):
        """Adds the case that the search has found, and cases near to it."""
        leaf_worths = []
        for at in range(len(self._leaves)):
            worth = self._mixer.bits(CASES_NEAR)
            if not self._search.is_open(1 + at):
                # The first case is just what was found, in each other one some values are turned.
                worth &= self._mixer.bits(CASES_NEAR) & self._mixer.bits(CASES_NEAR) & ~1
                worth ^= mask(CASES_NEAR) if self._search.holds(1 + at) else 0
            leaf_worths.append(worth)
        self._take_cases(leaf_worths, CASES_NEAR)
        nodes = [node for alike in self._unlike.values() for node in alike]
        self._unlike = {}
        for node in nodes:
            self._keep(node)
