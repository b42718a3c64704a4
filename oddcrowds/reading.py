"""Reading a text lexeme by lexeme, up to its first wrong place."""

from oddcrowds.errors import BadText
from oddcrowds.lexemes import lexemes_ahead


class Reader:
    """Takes the lexemes of a text one by one, and raises BadText at the first one that is wrong.

    A character that begins no lexeme counts only when all lexemes ahead of it are taken.
    """

    def __init__(self, text):
        found, end = lexemes_ahead(text)
        self._found = found
        self._end = end
        self._length = len(text)
        self._taken = 0

    def is_over(self):
        """Tell whether all lexemes are taken that stand ahead of the first character that begins none."""
        return self._taken == len(self._found)

    def _here(self):
        if self.is_over():
            return self._end
        return self._found[self._taken][2]

    def is_next(self, lexeme):
        """Tell whether this is the next lexeme."""
        return not self.is_over() and self._found[self._taken][1] == lexeme

    def accepts(self, lexeme):
        """Take the next lexeme if it is this one, and tell whether it was."""
        if not self.is_next(lexeme):
            return False
        self._taken += 1
        return True

    def take(self, lexeme):
        """Take the next lexeme, which must be this one."""
        if not self.accepts(lexeme):
            raise BadText(self._here())

    def _take_kind(self, kind):
        if self.is_over() or self._found[self._taken][0] != kind:
            raise BadText(self._here())
        self._taken += 1
        return self._found[self._taken - 1][1]

    def take_word(self):
        """Take the next lexeme, which must be a word, and return it."""
        return self._take_kind("word")

    def take_number(self):
        """Take the next lexeme, which must be a number, and return its value."""
        return int(self._take_kind("number"))

    def take_positive(self):
        """Take the next lexeme, which must be a number other than 0, and return its value."""
        if self.is_next("0"):
            raise BadText(self._here())
        return self.take_number()

    def take_place(self):
        """Take a place, which is a number, perhaps with a minus ahead of it, and return it."""
        if self.accepts("-"):
            return -self.take_positive()
        return self.take_number()

    def finish(self):
        """Raise BadText if anything but blanks and line feeds is left."""
        if not self.is_over() or self._end < self._length:
            raise BadText(self._here())
