"""The mistakes of a statement, of which the first one counts."""

from pastamended.errors import (
    AmbiguousName, DuplicateName, Misplaced, UnknownName, WrongCount, WrongKind, WrongRule, WrongSpan,
)

# Of several mistakes at one place the one that stands first here counts.
WORDS = ("unknown name", "duplicate name", "ambiguous name", "kind", "count", "misplaced", "rule", "span")


class Mistakes:
    """Collects the mistakes of one statement."""

    def __init__(self):
        self.found = []

    def note(self, word, place):
        self.found.append((place, WORDS.index(word)))

    def raise_first(self):
        """Raises the error of the mistake that counts, if there is one."""
        if not self.found:
            return
        place, at = min(self.found)
        word = WORDS[at]
        if word == "unknown name":
            raise UnknownName(place)
        if word == "duplicate name":
            raise DuplicateName(place)
        if word == "ambiguous name":
            raise AmbiguousName(place)
        if word == "kind":
            raise WrongKind(place)
        if word == "count":
            raise WrongCount(place)
        if word == "misplaced":
            raise Misplaced(place)
        if word == "rule":
            raise WrongRule(place)
        raise WrongSpan(place)
