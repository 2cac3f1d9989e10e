"""Nets made smaller."""

from stagecut.spread import Spread
from stagecut.wires import Wires


class Classes:
    """Latches taken to be alike until they are seen to differ.

    At first each latch is taken to have its first value always. Those whose next literals, with all that is taken to
    be alike in their place, show that this cannot hold are taken apart, until nothing more is seen. So what is left
    together is alike in each cycle.
    """

    def __init__(self, net):
        self._net = net
        self.wires = Wires()
        # For each node the literal in its place.
        self._places = Spread(net, net[0], self.wires.both)
        while changed := self._taken_apart():
            self._places.change(changed)

    def place_of(self, literal):
        """What stands in the place of a literal."""
        return self._places.worth_of(literal)

    def kept_latches(self):
        """For each literal that stands in the place of latches, their first value and next literal."""
        found = {}
        for at, (first, following) in enumerate(zip(self._net[0], self._net[2])):
            place = self.place_of(latch_literal(at))
            if place > 1:
                found[place] = (first, self.place_of(following))
        return found

    def _taken_apart(self):
        """The new places, by their nodes, of latches that were taken to be as others, or constant, but are not."""
        kept = {}
        given = {}
        changed = {}
        for at, literal in enumerate(self._net[2]):
            place = self.place_of(latch_literal(at))
            following = self.place_of(literal)
            if (place, following) not in given:
                stays = place == following if place < 2 else place not in kept
                given[(place, following)] = place if stays else self.wires.new_leaf()
                kept[place] = True
            if given[(place, following)] != place:
                changed[1 + at] = given[(place, following)]
        return changed


def shrink(net):
    """A net that tells the same, without what is constant, alike or not needed."""
    classes = Classes(net)
    outs = [classes.place_of(literal) for literal in net[3]]
    found = classes.kept_latches()
    nexts = {leaf: following for leaf, (_, following) in found.items()}
    needed = [2 * node for node in sorted(classes.wires.hung_on(outs, nexts)) if 2 * node in nexts]
    return classes.wires.net([(leaf, found[leaf][0]) for leaf in needed], [nexts[leaf] for leaf in needed], outs)


def latch_literal(at):
    """The literal of the latch with a number."""
    return 2 * (1 + at)
