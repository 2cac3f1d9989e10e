"""Cores made ready to be worked out many times."""

from stagecut.check import node_width
from stagecut.shapes import PARTS, bottom_up, cut_off
from stagecut.words import worked


def program(plan, core):
    """The nodes of a core, each behind its parts, and with the widths of these."""
    rows = []
    widths = []
    for node in bottom_up(core):
        sides = cut_off(widths, len(PARTS[node[0]]))
        rows.append((node, sides))
        widths.append(node_width(plan, node, sides))
    return rows


def run_program(rows, source):
    """The value of a core; the source tells what it reads and names."""
    done = []
    for node, widths in rows:
        kind = node[0]
        if kind == "lit":
            done.append(node[1])
        elif kind == "reg":
            done.append(source.reg_value(node[1]))
        elif kind == "let":
            done.append(source.let_value(node[1]))
        elif kind == "read":
            done.append(source.word_at(node[1], done.pop()))
        else:
            sides = cut_off(done, len(widths))
            done.append(worked(node, sides, widths))
    return done[0]
