"""Going through the tokens of a text."""

from stagecut.errors import Unexpected


class Reader:
    """A list of tokens and the place up to which they were taken."""

    def __init__(self, found):
        self._found = found
        self._at = 0

    def seen(self, kind, text):
        """True if the next token is of this kind and text."""
        token = self._found[self._at]
        return token[0] == kind and token[1] == text

    def seen_kind(self, kind):
        """True if the next token is of this kind."""
        return self._found[self._at][0] == kind

    def next_text(self):
        """The text or number of the next token, which is not taken."""
        return self._found[self._at][1]

    def skips(self, kind, text):
        """Takes a token if it is the next one, and tells whether it is."""
        if not self.seen(kind, text):
            return False
        self._at += 1
        return True

    def needs(self, kind, text):
        """Takes a token that must be the next one."""
        if not self.skips(kind, text):
            self.fail()

    def takes(self, kind):
        """Takes a token that must be of this kind, and gives its text or number."""
        if not self.seen_kind(kind):
            self.fail()
        self._at += 1
        return self._found[self._at - 1][1]

    def ends(self):
        """Makes sure that all tokens were taken."""
        if not self.seen_kind("end"):
            self.fail()

    def fail(self):
        """Tells that the next token cannot stand here."""
        token = self._found[self._at]
        raise Unexpected(token[2], token[3])
