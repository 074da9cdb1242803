"""A reader that goes through the lexemes of a text, up to its first wrong place."""

from figureclaims.errors import BadText
from figureclaims.lexemes import scanned


class Reader:
    """What is left to read of a text.

    Whatever is taken must be what the form wants next: then the first
    lexeme that is refused is at the text's first wrong place.
    """

    def __init__(self, text):
        found, bad = scanned(text)
        self.found = found
        self.end = len(text) if bad is None else bad
        self.cut = bad is not None
        self.next_one = 0

    def sees(self, lexeme):
        """Whether this very word or sign comes next."""
        return self.seen() == lexeme

    def seen(self):
        """The lexeme that comes next, or None at the end."""
        if self.next_one == len(self.found):
            return None
        return self.found[self.next_one][1]

    def sees_sort(self, sort):
        """Whether a lexeme of this sort comes next."""
        return self.next_one < len(self.found) and self.found[self.next_one][0] == sort

    def fail(self):
        """Raise the place of what comes next."""
        if self.next_one < len(self.found):
            raise BadText(self.found[self.next_one][2])
        raise BadText(self.end)

    def take(self, lexeme):
        """Go behind this very word or sign."""
        if not self.sees(lexeme):
            self.fail()
        self.next_one += 1

    def take_name(self):
        """Take a word."""
        return self._taken("word")

    def take_names(self, many):
        """Take so many words, as a tuple."""
        return tuple([self.take_name() for _ in range(many)])

    def take_all_names(self):
        """Take all words that come next, as a tuple."""
        names = []
        while self.sees_sort("word"):
            names.append(self.take_name())
        return tuple(names)

    def take_numeral(self):
        """Take a numeral, as a number."""
        return int(self._taken("numeral"))

    def take_integer(self):
        """Take a numeral, or - and one other than 0, as an integer."""
        if not self.sees("-"):
            return self.take_numeral()
        self.take("-")
        if self.sees("0"):
            self.fail()
        return -self.take_numeral()

    def finish(self):
        """Fail if anything is left, be it what begins no lexeme."""
        if self.cut or self.next_one < len(self.found):
            self.fail()

    def _taken(self, sort):
        if not self.sees_sort(sort):
            self.fail()
        self.next_one += 1
        return self.found[self.next_one - 1][1]
