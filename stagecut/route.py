"""Ways of the values of cells over a grid."""

from stagecut.errors import NoRoute
from stagecut.grid import DIRECTIONS, is_on_grid, neighbour
from stagecut.place import cell_bundles


class Router:
    """A grid on which ways are laid one behind the other; no edge carries more than most."""

    def __init__(self, width, height, most):
        self._width = width
        self._height = height
        self._most = most
        # How many ways go over each edge.
        self._carried = {}

    def lay(self, begin, ends):
        """The edges of a way from a spot to others, or None if there is none to one of them."""
        come_to = {begin: True}
        edges = []
        # Those that are near come first, so that the way to others can begin there.
        for end in sorted(ends, key=lambda spot: abs(spot[0] - begin[0]) + abs(spot[1] - begin[1])):
            path = self._path(come_to, end)
            if path is None:
                return None
            for edge in path:
                self._carried[edge] = self._carried.get(edge, 0) + 1
                come_to[edge[1]] = True
                edges.append(edge)
        return tuple(edges)

    def _path(self, come_to, end):
        """The shortest row of edges that are free from a spot that was come to, None if there is none."""
        # It is looked for from its end on, as what was come to is often near.
        behind = {end: None}
        todo = [end]
        at = 0
        while at < len(todo) and todo[at] not in come_to:
            for spot in self._spots_ahead(todo[at]):
                if spot not in behind:
                    behind[spot] = todo[at]
                    todo.append(spot)
            at += 1
        if at == len(todo):
            return None
        path = []
        spot = todo[at]
        while behind[spot] is not None:
            path.append((spot, behind[spot]))
            spot = behind[spot]
        return path

    def _spots_ahead(self, spot):
        """The neighbours from which an edge to a spot can carry one more way."""
        found = []
        for direction in range(len(DIRECTIONS)):
            other = neighbour(spot, direction)
            if is_on_grid(other, self._width, self._height) and self._carried.get((other, spot), 0) < self._most:
                found.append(other)
        return found


def route_cells(cells, spots, width, height, most):
    """For each cell the edges that lead from its spot to those of the cells that read it."""
    router = Router(width, height, most)
    ways = []
    for cell, bundle in enumerate(cell_bundles(cells)):
        way = router.lay(spots[cell], [spots[reader] for reader in bundle[1:]])
        if way is None:
            raise NoRoute(cell)
        ways.append(way)
    return tuple(ways)
