"""A text that is read from the left, sign by sign."""

from goalsmith.errors import NoText
from goalsmith.names import LETTERS, is_name

FIGURES = "0123456789"


class Cursor:
    """A text and the place down to which it is read; what stands otherwise than told is refused with NoText."""

    def __init__(self, text):
        if not isinstance(text, str):
            raise NoText("this is no text")
        self._text = text
        self._at = 0

    def is_at_end(self):
        """Whether all is read."""
        return self._at == len(self._text)

    def word_ahead(self):
        """All small letters from the place on; they are not yet read."""
        end = self._at
        while end < len(self._text) and self._text[end] in LETTERS:
            end += 1
        return self._text[self._at:end]

    def sign_ahead(self):
        """The one sign at the place, not yet read; at the end the text without signs."""
        return self._text[self._at:self._at + 1]

    def passes(self, signs):
        """Read these signs, where they stand at the place; tell whether they do."""
        if not self._text.startswith(signs, self._at):
            return False
        self._at += len(signs)
        return True

    def need(self, signs):
        """Read these signs, which must stand at the place."""
        if not self.passes(signs):
            raise NoText("other signs stand here than are due")

    def need_end(self):
        """All must be read."""
        if not self.is_at_end():
            raise NoText("more signs stand here than are due")

    def name(self):
        """Read a name."""
        word = self.word_ahead()
        if not is_name(word):
            raise NoText("a name is due here")
        self._at += len(word)
        return word

    def figure(self):
        """Read one figure; the number that it means."""
        sign = self.sign_ahead()
        if sign == "" or sign not in FIGURES:
            raise NoText("a figure is due here")
        self._at += 1
        return int(sign)

    def number(self):
        """Read a whole number in figures, no 0 ahead of another one."""
        number = self.figure()
        # What stands behind a 0 is left unread, and refused there.
        while number > 0 and self.sign_ahead() != "" and self.sign_ahead() in FIGURES:
            number = 10 * number + self.figure()
        return number

    def up_to(self, sign):
        """Read all down to a sign, and the sign; what stands ahead of it."""
        end = self._text.find(sign, self._at)
        if end < 0:
            raise NoText("a sign is due that does not come")
        inner = self._text[self._at:end]
        self._at = end + len(sign)
        return inner

    def passes_ahead_of(self, sign, others):
        """Read this sign, where one of the others stands behind it; tell whether it does."""
        behind = self._text[self._at + 1:self._at + 2]
        if self.sign_ahead() != sign or behind == "" or behind not in others:
            return False
        self._at += 1
        return True
