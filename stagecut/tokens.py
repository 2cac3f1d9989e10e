"""Texts to tokens."""

from stagecut.digits import DIGITS, is_short_number
from stagecut.errors import BadCharacter, BadNumber
from stagecut.words import MOST_WIDTH

LETTERS = "abcdefghijklmnopqrstuvwxyzABCDEFGHIJKLMNOPQRSTUVWXYZ"
KEYWORDS = ("machine", "reg", "file", "rom", "at", "let", "guess", "when", "wide", "part", "join")
LONG_SIGNS = (":=", "<<", ">>", "==")
SHORT_SIGNS = ":;,()[]=+-*&|^~<?"
WORD_LIMIT = 4294967296


def tokens(text):
    """The list of the tokens of a text, the last one being its end."""
    found = []
    at = 0
    row = 1
    line_start = 0
    while at < len(text):
        sign = text[at]
        if sign == "\n":
            at += 1
            row += 1
            line_start = at
        elif sign == " ":
            at += 1
        elif sign == "#":
            at = end_of_line(text, at)
        else:
            column = at - line_start + 1
            end = end_of_token(text, at, row, column)
            found.append(token_of(text[at:end], row, column))
            at = end
    found.append(("end", "", row, at - line_start + 1))
    return found


def end_of_line(text, at):
    """The place of the newline that ends a line, or of the end of the text."""
    end = text.find("\n", at)
    return len(text) if end < 0 else end


def end_of_token(text, at, row, column):
    """The place behind the token that begins at a place."""
    if text[at] in LETTERS or text[at] in DIGITS:
        end = at + 1
        while end < len(text) and goes_on(text[end]):
            end += 1
        return end
    if text[at:at + 2] in LONG_SIGNS:
        return at + 2
    if text[at] in SHORT_SIGNS:
        return at + 1
    raise BadCharacter(row, column)


def goes_on(sign):
    """True if a word or number goes on with this character."""
    return sign in LETTERS or sign in DIGITS or sign == "_"


def token_of(text, row, column):
    """The token with this text."""
    if text[0] in DIGITS:
        return number_token(text, row, column)
    if text[0] not in LETTERS:
        return ("sign", text, row, column)
    if text in KEYWORDS:
        return ("keyword", text, row, column)
    return ("name", text, row, column)


def number_token(text, row, column):
    """The number or literal with this text."""
    digits, sign, width_digits = text.partition("w")
    worth = small_number(digits)
    if sign == "":
        if worth is None:
            raise BadNumber(row, column)
        return ("number", worth, row, column)
    width = small_number(width_digits)
    if worth is None or width is None or not 1 <= width <= MOST_WIDTH or worth >= 1 << width:
        raise BadNumber(row, column)
    return ("literal", (worth, width), row, column)


def small_number(digits):
    """The number that a row of digits stands for, None if it is written wrongly or is too large."""
    if not is_short_number(digits) or int(digits) >= WORD_LIMIT:
        return None
    return int(digits)
