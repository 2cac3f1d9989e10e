"""How large what is made of a machine is."""

from stagecut.balance import balance
from stagecut.build import build
from stagecut.cells import pack_cells
from stagecut.fold import fold
from stagecut.levels import depth
from stagecut.lines import text_of
from stagecut.run import TABLE_SIZE, net_of
from stagecut.tables import map_tables, table_levels


def sizes(plan, roms):
    """The sizes of what is made of a plan with these words of its roms, by their names."""
    circuit = build(plan)
    net = net_of(plan, roms)
    flat = balance(net)
    tabled = map_tables(flat, TABLE_SIZE)
    return {
        "stages": plan[0],
        "rows": len(circuit[2]),
        "folded rows": len(fold(circuit)[2]),
        "latches": len(net[0]),
        "ands": len(net[1]),
        "depth": depth(net),
        "flat depth": depth(flat),
        "tables": len(tabled[1]),
        "table levels": table_levels(tabled),
        "cells": len(pack_cells(tabled)[0]),
    }


def print_report(found):
    """A text with a line for each name and its number, the names ascending."""
    return text_of([f"{name}: {found[name]}" for name in sorted(found)])
