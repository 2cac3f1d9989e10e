"""How long the values of fabrics take."""

from stagecut.cells import table_order
from stagecut.origins import all_origins

TABLE_TIME = 2


def slowest(fabric):
    """The time at which the table is settled that is settled last."""
    tiles = fabric[2]
    origins = all_origins(fabric)
    cells = [([begin for begin, _ in found], bits, first) for found, (_, bits, first, _) in zip(origins, tiles)]
    # When the values of the tiles are there: those of latches at once.
    there = [0] * len(tiles)
    for tile in table_order(cells):
        there[tile] = settled(there, origins[tile])
    return max([settled(there, found) for found in origins])


def settled(there, origins):
    """When a table is settled whose sources come from tiles over so many wires."""
    return TABLE_TIME + max([there[begin] + wires for begin, wires in origins], default=0)
