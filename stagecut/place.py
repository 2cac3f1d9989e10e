"""Places of cells on a grid."""

from stagecut.moves import Moves


def place_cells(cells, width, height):
    """Different spots for cells, such that to swap two spots never makes the sum of the lengths less."""
    bundles = cell_bundles(cells)
    moves = Moves(bundles, width, height, first_spots(bundles, width, height))
    while moves.improve():
        pass
    return tuple(moves.spots)


def wire_length(cells, spots):
    """The sum of the lengths of cells at these spots."""
    found = 0
    for bundle in cell_bundles(cells):
        for at in range(2):
            numbers = [spots[cell][at] for cell in bundle]
            found += max(numbers) - min(numbers)
    return found


def cell_bundles(cells):
    """For each cell itself and those that read it."""
    found = [{cell: True} for cell in range(len(cells))]
    for reader, (reads, _, _) in enumerate(cells):
        for cell in reads:
            found[cell][reader] = True
    return [list(bundle) for bundle in found]


def first_spots(bundles, width, height):
    """Spots for cells, in the order in which they hang together, to and fro over rows of a part of the grid."""
    many = len(bundles)
    columns = 1
    while columns < width and columns * min(columns, height) < many:
        columns += 1
    spots = [None] * many
    for at, cell in enumerate(linked_order(bundles)):
        row, column = divmod(at, columns)
        spots[cell] = (columns - 1 - column if row & 1 else column, row)
    return spots


def linked_order(bundles):
    """All cells, each near to those with which it has a bundle."""
    linked = [[] for _ in bundles]
    for bundle in bundles:
        for cell in bundle[1:]:
            linked[bundle[0]].append(cell)
            linked[cell].append(bundle[0])
    order = {}
    for first in range(len(bundles)):
        todo = [first]
        while todo:
            cell = todo.pop()
            if cell not in order:
                order[cell] = True
                todo.extend([other for other in linked[cell] if other not in order])
    return list(order)
