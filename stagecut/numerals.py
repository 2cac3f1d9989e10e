"""Numbers as bytes: digits to the base 128, the low one first, all but the last with 128 added."""

from stagecut.errors import BadImage


def number_bytes(numbers):
    """The bytes of numbers one behind the other."""
    found = []
    for number in numbers:
        while number > 127:
            found.append((number & 127) + 128)
            number >>= 7
        found.append(number)
    return found


class NumberReader:
    """Reads numbers from a row of bytes."""

    def __init__(self, row):
        self._image = row
        self._at = 0

    def is_done(self):
        """True if nothing is left of the row."""
        return self._at == len(self._image)

    def next_number(self):
        """The next number."""
        begin = self._at
        while self._at < len(self._image) and self._image[self._at] > 127:
            self._at += 1
        if self._at == len(self._image):
            raise BadImage()
        self._at += 1
        digits = self._image[begin:self._at]
        if len(digits) > 1 and digits[-1] == 0 or not all([0 <= digit < 256 for digit in digits]):
            raise BadImage()
        return sum([(digit & 127) << (7 * at) for at, digit in enumerate(digits)])

    def next_numbers(self, many):
        """The list of the next numbers, so many."""
        return [self.next_number() for _ in range(many)]
