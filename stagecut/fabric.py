"""Fabrics: (width, height, tiles, outs), with tiles (sources, bits, first, wires)."""

from stagecut.cells import run_cells
from stagecut.grid import DIRECTIONS, direction_of, opposite
from stagecut.origins import OWN, all_origins

# What stands on a tile without a cell.
NO_CELL = ((), (0,), None)


def set_up(packed, spots, ways, width, height):
    """The fabric of cells at spots, whose values go over ways of edges."""
    cells, outs = packed
    numbers = [x + y * width for x, y in spots]
    wires = [[[] for _ in DIRECTIONS] for _ in range(width * height)]
    sources = [laid_sources(wires, spot, way, width) for spot, way in zip(spots, ways)]
    parts = [NO_CELL] * (width * height)
    for cell, (reads, bits, first) in enumerate(cells):
        parts[numbers[cell]] = (tuple([sources[read][numbers[cell]] for read in reads]), tuple(bits), first)
    tiles = []
    for part, laid in zip(parts, wires):
        tiles.append((*part, tuple([tuple(led) for led in laid])))
    return (width, height, tuple(tiles), tuple([numbers[cell] for cell in outs]))


def laid_sources(wires, spot, way, width):
    """Lays the wires of a way; tells the sources of its value, by the numbers of the tiles to which it comes."""
    found = {spot[0] + spot[1] * width: OWN}
    for edge in way:
        begin, end = [x + y * width for x, y in edge]
        direction = direction_of(edge)
        led = wires[begin][direction]
        found[end] = ("in", opposite(direction), len(led))
        led.append(found[begin])
    return found


def run_fabric(fabric, cycles):
    """The bits that a fabric tells in each cycle."""
    cells = []
    for tile, origins in zip(fabric[2], all_origins(fabric)):
        cells.append((tuple([begin for begin, _ in origins]), tile[1], tile[2]))
    return run_cells((tuple(cells), fabric[3]), cycles)
