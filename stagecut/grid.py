"""Grids: spots (x, y), and the directions to their neighbours."""

# To the right, below, to the left, above.
DIRECTIONS = ((1, 0), (0, 1), (-1, 0), (0, -1))


def neighbour(spot, direction):
    """The spot in a direction."""
    x, y = DIRECTIONS[direction]
    return (spot[0] + x, spot[1] + y)


def is_on_grid(spot, width, height):
    """True if a spot is on a grid."""
    return 0 <= spot[0] < width and 0 <= spot[1] < height


def opposite(direction):
    """The direction from a neighbour back."""
    return direction ^ 2


def direction_of(edge):
    """The direction in which an edge leads to a neighbour."""
    return DIRECTIONS.index((edge[1][0] - edge[0][0], edge[1][1] - edge[0][1]))
