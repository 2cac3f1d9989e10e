"""Clauses and proofs as texts."""

from stagecut.digits import is_number, number_of, number_text
from stagecut.errors import BadLine
from stagecut.lines import text_of, whole_lines

HEAD = "p cnf"
END = "0"


def print_clauses(many, clauses):
    """The text of clauses over so many variables."""
    lines = [f"{HEAD} {number_text(many)} {number_text(len(clauses))}"]
    lines.extend([clause_line(clause) for clause in clauses])
    return text_of(lines)


def print_proof(proof):
    """The text of a proof."""
    return text_of([clause_line(clause) for clause in proof])


def read_clauses(text):
    """The number of variables and the clauses that a text tells."""
    lines = whole_lines(text)
    many, number = head_numbers(lines[0])
    clauses = []
    for at, line in enumerate(lines[1:]):
        clause = clause_of(line)
        if at >= number or clause is None or not all([abs(literal) <= many for literal in clause]):
            raise BadLine(at + 2)
        clauses.append(clause)
    if len(clauses) < number:
        raise BadLine(len(lines) + 1)
    return many, tuple(clauses)


def read_proof(text):
    """The proof that a text tells."""
    clauses = []
    for at, line in enumerate(whole_lines(text) if text else []):
        clause = clause_of(line)
        if clause is None:
            raise BadLine(at + 1)
        clauses.append(clause)
    return tuple(clauses)


def head_numbers(line):
    """The numbers of variables and clauses that the first line tells."""
    parts = line.split(" ")
    if len(parts) != 4 or " ".join(parts[:2]) != HEAD or not all([is_number(part) for part in parts[2:]]):
        raise BadLine(1)
    return [number_of(part) for part in parts[2:]]


def clause_line(clause):
    """The line of a clause."""
    return " ".join([*[literal_text(literal) for literal in clause], END])


def literal_text(literal):
    """The text of a literal."""
    return "-" + number_text(-literal) if literal < 0 else number_text(literal)


def clause_of(line):
    """The clause that a line tells, None if it tells none."""
    *parts, end = line.split(" ")
    if end != END or not all([is_literal(part) for part in parts]):
        return None
    return tuple([literal_of(part) for part in parts])


def is_literal(text):
    """True for a number other than 0, perhaps behind a minus."""
    digits = text.removeprefix("-")
    return digits != END and is_number(digits)


def literal_of(text):
    """The literal that a text tells."""
    return -number_of(text[1:]) if text.startswith("-") else number_of(text)
