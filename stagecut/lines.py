"""Texts that consist of lines."""

from stagecut.digits import is_number, number_of
from stagecut.errors import BadLine


def whole_lines(text):
    """The list of the lines of a text, each of which must end with a newline; one must be there."""
    lines = text.split("\n")
    if lines[-1] != "" or len(lines) == 1:
        raise BadLine(len(lines))
    return lines[:-1]


def text_of(lines):
    """The text with these lines."""
    return "".join([line + "\n" for line in lines])


def cycles_told(line):
    """The number of cycles that the first line of a text tells."""
    word, _, number = line.partition(" ")
    if word != "cycles" or not is_number(number):
        raise BadLine(1)
    return number_of(number)
