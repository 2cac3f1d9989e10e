"""Pipelines proved to do what the steps do, for all words of their roms."""

from stagecut.bits import word_of
from stagecut.blast import blast
from stagecut.build_step import watch, watch_contents
from stagecut.fold import fold
from stagecut.never import never
from stagecut.proofs import is_proof

# The told bit of the watching circuit that is 1 where something is done that is not the step.
WRONG_BIT = 1


def wrong_roms(plan, cycles):
    """Words of the roms with which something is done that is not the step, or None; clauses; a proof."""
    circuit = fold(watch(plan))
    contents = tuple([(0,) * (1 << bits) for _, bits, _, _ in plan[2]])
    net = blast(circuit, watch_contents(plan, contents))
    values, clauses, proof = never(net, WRONG_BIT, rom_latches(plan, circuit), cycles)
    if values is None:
        return None, clauses, proof
    return rom_words(plan, values), clauses, proof


def is_proved(plan, cycles):
    """True if the pipeline of a plan is proved to do the steps in so many cycles, and the proof is one."""
    roms, clauses, proof = wrong_roms(plan, cycles)
    return roms is None and is_proof(clauses, proof)


def rom_latches(plan, circuit):
    """The latches that the net of the watching circuit has for the words of the roms."""
    found = []
    # The latches of the registers come first.
    at = sum([width for width, _ in circuit[0]])
    for _, bits, width, is_rom in plan[2]:
        end = at + (width << bits)
        if is_rom:
            found.extend(list(range(at, end)))
        at = end
    return found


def rom_words(plan, values):
    """The words of the roms with these bits."""
    roms = []
    at = 0
    for _, bits, width, is_rom in plan[2]:
        if is_rom:
            words = []
            for _ in range(1 << bits):
                words.append(word_of(values[at:at + width]))
                at += width
            roms.append(tuple(words))
    return tuple(roms)
