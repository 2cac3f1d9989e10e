"""From where the sources of fabrics come."""

from stagecut.grid import is_on_grid, neighbour, opposite

OWN = ("own",)


class Origins:
    """The tiles of a fabric, and whose value each source of theirs is."""

    def __init__(self, width, height, tiles):
        self._width = width
        self._height = height
        self._tiles = tiles
        # What was found so far, by tile and source.
        self._found = {}

    def origin(self, tile, source):
        """The tile whose own value a source of a tile is, and over how many wires; None if it comes from none."""
        passed = {}
        while source != OWN and (tile, source) not in self._found:
            ahead = self._wire_ahead(tile, source)
            if ahead is None or (tile, source) in passed:
                return None
            passed[(tile, source)] = True
            tile, source = ahead
        begin, wires = (tile, 0) if source == OWN else self._found[(tile, source)]
        for place in reversed(list(passed)):
            wires += 1
            self._found[place] = (begin, wires)
        return begin, wires

    def _wire_ahead(self, tile, source):
        """The tile from which a wire comes, and the wire's own source; None if it is not there."""
        _, direction, wire = source
        spot = neighbour((tile % self._width, tile // self._width), direction)
        if not is_on_grid(spot, self._width, self._height):
            return None
        other = spot[0] + spot[1] * self._width
        wires = self._tiles[other][3][opposite(direction)]
        return (other, wires[wire]) if wire < len(wires) else None


def all_origins(fabric):
    """For each tile of a fabric the origins of the sources of its table."""
    width, height, tiles, _ = fabric
    origins = Origins(width, height, tiles)
    return [[origins.origin(number, source) for source in tile[0]] for number, tile in enumerate(tiles)]
