"""Circuits of word rows as nets of gates."""

from stagecut.bits import literal_bits, picked_bits, word_of, worked_bits
from stagecut.circuit import widths_of
from stagecut.shapes import parts
from stagecut.wires import Wires


class Blaster:
    """The bits of what a circuit has: its registers, the words of its memories, and its rows."""

    def __init__(self, circuit, contents):
        self.wires = Wires()
        # The leaf and the first value of each latch.
        self.latches = []
        self.regs = [self._word(first, width) for width, first in circuit[0]]
        self.memories = []
        for (_, width), words in zip(circuit[1], contents):
            self.memories.append([self._word(word, width) for word in words])
        self.rows = []
        for row in circuit[2]:
            self.rows.append(self._row(row))

    def _word(self, first, width):
        """The bits of a word that is kept, as new latches."""
        bits = [self.wires.new_leaf() for _ in range(width)]
        self.latches.extend([(bit, worth) for bit, worth in zip(bits, literal_bits(first, width))])
        return bits

    def _row(self, row):
        """The bits of a row."""
        if row[0] == "lit":
            return literal_bits(row[1], row[2])
        if row[0] == "reg":
            return self.regs[row[1]]
        if row[0] == "look":
            return self._looked(self.memories[row[1]], self.rows[row[2]])
        return worked_bits(self.wires, row, [self.rows[side] for side in parts(row)])

    def _looked(self, words, address):
        """The bits of the word at an address."""
        for bit in address:
            words = [picked_bits(self.wires, bit, high, low) for low, high in zip(words[::2], words[1::2])]
        return words[0]

    def stored(self, stores):
        """The bits that the words of the memories have behind a cycle."""
        memories = [list(words) for words in self.memories]
        for memory, address, worth, test in stores:
            words = []
            for at, word in enumerate(memories[memory]):
                hit = self._is_at(self.rows[test][0], self.rows[address], at)
                words.append(picked_bits(self.wires, hit, self.rows[worth], word))
            memories[memory] = words
        return memories

    def _is_at(self, test, address, at):
        """The literal that is 1 where a test is, and an address is a number."""
        found = test
        for bit, worth in zip(address, literal_bits(at, len(address))):
            found = self.wires.both(found, bit if worth else bit ^ 1)
        return found


def blast(circuit, contents):
    """A net that does in each cycle what a circuit does whose memories have these contents at first."""
    found = Blaster(circuit, contents)
    nexts = [bit for row in circuit[3] for bit in found.rows[row]]
    for words in found.stored(circuit[4]):
        nexts.extend([bit for word in words for bit in word])
    outs = [bit for row in circuit[5] for bit in found.rows[row]]
    return found.wires.net(found.latches, nexts, outs)


def words_told(circuit, told):
    """The words that a circuit tells, from the bits that its net tells in a cycle."""
    widths = widths_of(circuit)
    found = []
    at = 0
    for row in circuit[5]:
        found.append(word_of(told[at:at + widths[row]]))
        at += widths[row]
    return tuple(found)
