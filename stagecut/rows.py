"""Rows of circuits in the making."""

from stagecut.circuit import known_row_width
from stagecut.shapes import fold_up, parts, with_parts
from stagecut.shorter import shorter


class Rows:
    """Rows made shorter as they come, none of them there twice, with the registers and memories that they name."""

    def __init__(self, registers, memories):
        self.registers = list(registers)
        self.memories = list(memories)
        self.rows = []
        self.widths = []
        self._numbers = {}

    def new_register(self, width, first):
        """Makes a register; the number of the row with what it has."""
        self.registers.append((width, first))
        return self.placed(("reg", len(self.registers) - 1))

    def placed(self, row):
        """The number of a row, or of a shorter one in its place."""
        sides = parts(row)
        if row[0] not in ("lit", "reg", "look"):
            known = [self.rows[side][1] if self.rows[side][0] == "lit" else None for side in sides]
            alike = len(sides) > 1 and sides[-1] == sides[-2]
            found = shorter(row, known, [self.widths[side] for side in sides], alike)
            if found is not None:
                return sides[found[1]] if found[0] == "same" else self._number(found)
        return self._number(row)

    def _number(self, row):
        """The number of a row, which is made if it is not there."""
        if row not in self._numbers:
            self._numbers[row] = len(self.rows)
            self.widths.append(known_row_width((self.registers, self.memories), self.widths, row))
            self.rows.append(row)
        return self._numbers[row]

    def literal(self, worth, width):
        """The row of a literal."""
        return self.placed(("lit", worth, width))

    def both(self, one, other):
        """The row that is 1 where two rows of one bit are."""
        return self.placed(("op", "&", one, other))

    def any_of(self, one, other):
        """The row that is 1 where one of two rows of one bit is."""
        return self.placed(("op", "|", one, other))

    def no(self, row):
        """The row that is 1 where a row of one bit is not."""
        return self.placed(("not", row))

    def same(self, one, other):
        """The row that tells whether two rows have one value."""
        return self.placed(("op", "==", one, other))

    def pick(self, test, one, other):
        """The row that has the value of one where a test is 1, of another one elsewhere."""
        return self.placed(("pick", test, one, other))


def core_row(rows, core, source):
    """The row with the value of a core; the source tells the rows of what it reads and names."""
    return fold_up(core, lambda node, sides: node_row(rows, node, sides, source))


def node_row(rows, node, sides, source):
    """The row with the value of a node of a core, from the rows of its parts."""
    if node[0] == "reg":
        return source.reg_row(node[1])
    if node[0] == "let":
        return source.let_row(node[1])
    if node[0] == "read":
        return source.word_row(node[1], sides[0])
    return rows.placed(with_parts(node, sides))
