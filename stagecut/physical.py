"""Pipelines on fabrics."""

from stagecut.cells import pack_cells
from stagecut.fabric import run_fabric, set_up
from stagecut.place import place_cells
from stagecut.route import route_cells
from stagecut.run import bit_records, tables_of


def fabric_of(plan, roms, size):
    """A fabric that does what the pipeline of a plan does, with tables of at most so many leaves."""
    packed = pack_cells(tables_of(plan, roms, size))
    cells = packed[0]
    width = 1
    while width * width < len(cells):
        width += 1
    height = (len(cells) + width - 1) // width
    spots = place_cells(cells, width, height)
    # With room for all cells on each edge there is a way for each of them.
    ways = route_cells(cells, spots, width, height, len(cells))
    return set_up(packed, spots, ways, width, height)


def by_fabric(plan, roms, size, cycles):
    """What by_steps tells, by a fabric."""
    return bit_records(plan, run_fabric(fabric_of(plan, roms, size), cycles))
