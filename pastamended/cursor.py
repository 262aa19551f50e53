"""A way through the words of a statement, word by word."""

from pastamended.errors import SyntaxFault
from pastamended.words import words

MOST_WORDS = 200
MOST_UNCLOSED = 20


class Cursor:
    """Stands in front of one word of a text, or behind the last one."""

    def __init__(self, text):
        self.row = _within_bounds(words(text))
        self.end = len(text)
        self.at = 0

    def here(self):
        """The place of the next word; behind the last one, the length of the text."""
        if self.at == len(self.row):
            return self.end
        return self.row[self.at][2]

    def sees(self, word):
        """Whether the next word is this keyword or sign."""
        return self.sees_sort("keyword", word) or self.sees_sort("sign", word)

    def sees_sort(self, sort, word=None):
        """Whether the next word is of this sort and, unless that is None, this word."""
        if self.at == len(self.row):
            return False
        return self.row[self.at][0] == sort and word in (None, self.row[self.at][1])

    def sees_one(self, choices):
        """Whether the next word is one of these keywords and signs."""
        return any([self.sees(word) for word in choices])

    def take(self, word):
        """Steps over the next word if it is this keyword or sign, and says whether it is."""
        found = self.sees(word)
        if found:
            self.at += 1
        return found

    def take_one(self, choices):
        """Steps over the next word if it is one of these keywords and signs; the word, or an empty string."""
        for word in choices:
            if self.take(word):
                return word
        return ""

    def need(self, word):
        """Steps over this keyword or sign; anything else is a fault."""
        if not self.take(word):
            raise SyntaxFault(self.here())

    def need_sort(self, sort):
        """Steps over a word of this sort and returns its value; anything else is a fault."""
        if not self.sees_sort(sort):
            raise SyntaxFault(self.here())
        value = self.row[self.at][1]
        self.at += 1
        return value

    def need_end(self):
        """A word that is left is a fault."""
        if self.at < len(self.row):
            raise SyntaxFault(self.here())


def _within_bounds(found):
    """The words, of which the first one beyond the bounds is made a bad one: so nothing goes on with it."""
    unclosed = 0
    for at, (sort, value, place) in enumerate(found):
        if (sort, value) == ("sign", "("):
            unclosed += 1
        if (sort, value) == ("sign", ")"):
            unclosed -= 1
        if at == MOST_WORDS or unclosed > MOST_UNCLOSED:
            return found[:at] + [("bad", "", place)]
    return found
