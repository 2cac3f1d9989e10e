"""Numbers as rows of digits."""

DIGITS = "0123456789"


def is_number(text):
    """True for digits without a 0 at their front, and for 0 itself."""
    if not text or (text[0] == "0" and text != "0"):
        return False
    return all(sign in DIGITS for sign in text)


def is_short_number(text):
    """True for a number of at most ten digits."""
    return len(text) <= 10 and is_number(text)
