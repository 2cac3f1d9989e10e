"""Places of cells on a grid."""

from stagecut.moves import Moves
from stagecut.first_spots import first_spots


def place_cells(cells, width, height):
    """Different spots for cells, such that to swap two spots never makes the sum of the lengths less."""
    bundles = cell_bundles(cells)
    moves = Moves(bundles, width, height, first_spots(bundles, width, height))
    while moves.improve():
        pass
    return tuple(moves.spots)


def wire_length(cells, spots):
    """The sum of the lengths of cells at these spots."""
    found = 0
    for bundle in cell_bundles(cells):
        for at in range(2):
            numbers = [spots[cell][at] for cell in bundle]
            found += max(numbers) - min(numbers)
    return found


def cell_bundles(cells):
    """For each cell itself and those that read it."""
    found = [{cell: True} for cell in range(len(cells))]
    for reader, (reads, _, _) in enumerate(cells):
        for cell in reads:
            found[cell][reader] = True
    return [list(bundle) for bundle in found]
