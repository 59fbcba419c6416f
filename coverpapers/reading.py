"""Reading a text from left to right, up to the first character that is invalid."""

from coverpapers.errors import InvalidText

MOST_DIGITS = 60


class Reader:
    """A text and the place in it up to which it is read.

    What is asked for is read from this place on, or InvalidText is raised with the place of the first character that
    does not belong to it. A number ends before a character that can't be its next digit; so whoever goes on reads it.
    """

    def __init__(self, text):
        self._text = text
        self._at = 0

    def sees(self, characters):
        """Tell whether these characters come next."""
        return self._text[self._at:self._at + len(characters)] == characters

    def sees_digit(self):
        """Tell whether a digit comes next."""
        return self._text[self._at:self._at + 1].isdigit()

    def pass_over(self, characters):
        """Read these characters."""
        for character in characters:
            if not self.sees(character):
                raise InvalidText(self._at)
            self._at += 1

    def read_index(self):
        """Read a number without a sign and return it."""
        if self.sees("0"):
            self.pass_over("0")
            return 0
        return self._read_positive()

    def read_letter(self):
        """Read a number that may have a minus sign and return it."""
        if self.sees("-"):
            self.pass_over("-")
            return -self._read_positive()
        return self.read_index()

    def finish(self):
        """Read the end of the text."""
        if self._at < len(self._text):
            raise InvalidText(self._at)

    def _read_positive(self):
        if self.sees("0") or not self.sees_digit():
            raise InvalidText(self._at)
        start = self._at
        while self.sees_digit() and self._at - start < MOST_DIGITS:
            self._at += 1
        return int(self._text[start:self._at])
