"""Nets followed over cycles."""

from stagecut.wires import Wires


class Frames:
    """The nodes of nets followed over cycles from states of which some latches may have any values."""

    def __init__(self, many):
        self.wires = Wires()
        # The literals of the values that are any.
        self.leaves = [self.wires.new_leaf() for _ in range(many)]

    def follow(self, net, free, cycles):
        """The literals that a net tells cycle by cycle, in one list, when the latches in free have any values."""
        state = list(net[0])
        for latch, leaf in zip(free, self.leaves):
            state[latch] = leaf
        found = []
        for _ in range(cycles):
            places = node_places(self.wires, net, state)
            found.extend([place_of(places, literal) for literal in net[3]])
            state = [place_of(places, literal) for literal in net[2]]
        return found


def node_places(wires, net, state):
    """For each node of a net the literal in its place, where the latches have those of a state."""
    places = [0, *state]
    for one, other in net[1]:
        places.append(wires.both(place_of(places, one), place_of(places, other)))
    return places


def place_of(places, literal):
    """What stands in the place of a literal, from the places of the nodes."""
    return places[literal >> 1] ^ (literal & 1)
