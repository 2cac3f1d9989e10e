"""Numbers as rows of digits."""

DIGITS = "0123456789"
# Python itself turns no more than a few thousand digits into a number, or back, at once.
AT_ONCE = 1000


def is_number(text):
    """True for digits without a 0 at their front, and for 0 itself."""
    if not text or (text[0] == "0" and text != "0"):
        return False
    return all(sign in DIGITS for sign in text)


def is_short_number(text):
    """True for a number of at most ten digits."""
    return len(text) <= 10 and is_number(text)


def number_of(text):
    """The number that digits stand for, however many they are."""
    worth = 0
    for at in range(0, len(text), AT_ONCE):
        part = text[at:at + AT_ONCE]
        worth = worth * power_of_ten(len(part)) + int(part)
    return worth


def number_text(worth):
    """The digits of a number, however many they are."""
    if worth.bit_length() < AT_ONCE:
        return str(worth)
    limit = power_of_ten(AT_ONCE)
    found = []
    while worth >= limit:
        worth, low = divmod(worth, limit)
        found.append(str(low).zfill(AT_ONCE))
    found.append(str(worth))
    return "".join(found[::-1])


def power_of_ten(many):
    """The number that is a 1 and so many zeros behind it."""
    return int("1" + "0" * many)
