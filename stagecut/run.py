"""Machines run as pipelines, circuits, nets and tables."""

from stagecut.assemble import assemble, parse_code, parse_forms
from stagecut.balance import balance
from stagecut.blast import blast, words_told
from stagecut.build import build, record_of
from stagecut.check import check
from stagecut.circuit_run import run_circuit
from stagecut.fold import fold
from stagecut.gates import run_net
from stagecut.onestep import start, steps
from stagecut.parser import parse
from stagecut.pipeline import Pipeline
from stagecut.shrink import shrink
from stagecut.tables import map_tables, run_tables

# Leaves of tables where nobody asks for another number.
TABLE_SIZE = 4


def compile_text(text):
    """The plan of a machine."""
    return check(parse(text))


def net_of(plan, roms):
    """The small net of the pipeline of a plan with these words of its roms."""
    return shrink(blast(fold(build(plan)), start(plan, roms)[1]))


def tables_of(plan, roms, size):
    """The tables, of at most so many leaves, of the flat net of the pipeline of a plan."""
    return map_tables(balance(net_of(plan, roms)), size)


def by_steps(plan, roms, cycles):
    """For each cycle of the pipeline the record of what is done in it, or None."""
    pipeline = Pipeline(plan, start(plan, roms))
    found = []
    for _ in range(cycles):
        done = pipeline.cycle()
        found.append(done[0] if done else None)
    return tuple(found)


def by_rows(plan, roms, cycles):
    """What by_steps tells, by the circuit."""
    told = run_circuit(build(plan), start(plan, roms)[1], cycles)
    return tuple([record_of(plan, words) for words in told])


def by_gates(plan, roms, cycles):
    """What by_steps tells, by the small net."""
    return bit_records(plan, run_net(net_of(plan, roms), cycles))


def by_tables(plan, roms, size, cycles):
    """What by_steps tells, by tables of at most so many leaves."""
    return bit_records(plan, run_tables(tables_of(plan, roms, size), cycles))


def bit_records(plan, told):
    """The records, or None, of what is told in bits cycle by cycle."""
    circuit = build(plan)
    return tuple([record_of(plan, words_told(circuit, bits)) for bits in told])


def first_difference(plan, roms, cycles):
    """The first of "pipeline", "rows", "gates" and "tables" that does not do what the steps do, None if all do."""
    expected = by_steps(plan, roms, cycles)
    records = tuple([record for record in expected if record is not None])
    if records != steps(plan, start(plan, roms), len(records))[0]:
        return "pipeline"
    if by_rows(plan, roms, cycles) != expected:
        return "rows"
    if by_gates(plan, roms, cycles) != expected:
        return "gates"
    if by_tables(plan, roms, TABLE_SIZE, cycles) != expected:
        return "tables"
    return None


def speed(plan, roms, cycles):
    """How many instructions are done in so many cycles, how often each slot waited, and how many guesses were wrong."""
    pipeline = Pipeline(plan, start(plan, roms))
    done = 0
    for _ in range(cycles):
        done += len(pipeline.cycle())
    return done, tuple(pipeline.waited), pipeline.missed


def assemble_text(plan, forms, codes):
    """The words of the roms, from the text of the forms and a text of a code for each of them."""
    found = []
    known = parse_forms(forms)
    for (_, bits, width, _), code in zip([row for row in plan[2] if row[3]], codes):
        found.append(assemble(known, parse_code(code), bits, width))
    return tuple(found)


def run_text(text, forms, codes, cycles):
    """What by_steps tells of the machine of a text with codes."""
    plan = compile_text(text)
    return by_steps(plan, assemble_text(plan, forms, codes), cycles)
