"""Transactions: statements over what was committed when they began, which are committed together."""

from pastamended.changing import change
from pastamended.copies import copied
from pastamended.errors import Conflict, NotYetKnown
from pastamended.plans import planned_answer
from pastamended.regions import at_known
from pastamended.rewriting import rewrite


class Transaction:
    """Does statements over tables of its own, which have the facts of the store at first."""

    def __init__(self, store):
        self.store = store
        self.known = store.known
        self.tables = store.tables.duplicate()
        self.done = []

    def apply(self, statement, text=""):
        """Does the statement, to which the text belongs, and returns its answer."""
        answer = self._answer(statement, text)
        self.done.append((copied(statement), text, copied(answer)))
        return copied(answer)

    def schemas(self):
        """The schemas of its tables."""
        return self.tables.schemas()

    def relations(self):
        """Its relations: the facts up to its known number, and its pending rows behind it."""
        return self.tables.relations()

    def undo(self):
        """Gives up all statements and begins again with what is committed now."""
        self.known = self.store.known
        self.tables = self.store.tables.duplicate()
        self.done = []

    def texts_of_changes(self):
        """The texts of its statements that are not questions."""
        return [text for statement, text, _ in self.done if statement[0] != "ask"]

    def replayed(self):
        """A transaction that has begun now and has the same statements; raises Conflict if one answers otherwise."""
        other = Transaction(self.store)
        for index, (statement, text, before) in enumerate(list(self.done)):
            if statement[0] == "table" and statement[1] in other.tables.facts:
                raise Conflict(index)
            after = other.apply(statement, text)
            if statement[0] == "ask" and statement[3] is None:
                same = _now(before, self.known) == _now(after, other.known)
            else:
                same = before == after
            if not same:
                raise Conflict(index)
        return other

    def _answer(self, statement, text):
        """Does the statement and returns its answer; nothing is changed if it is refused."""
        word = statement[0]
        if word == "table":
            _, name, columns, rules = statement
            self.tables.make(name, columns, rules, text, [])
            return ("made", name)
        if word == "ask":
            return ("answer", self._relation_asked(statement))
        pairs, count = change(statement, self.tables.facts, self.known)
        self.tables.set_pending(statement[1], pairs, self.known)
        return ("changed", count)

    def _relation_asked(self, statement):
        _, question, span, known = statement
        j, k = (self.known + 1, self.known + 2) if known is None else known
        if known is not None and k - 1 > self.known:
            raise NotYetKnown(k - 1)
        return planned_answer(rewrite(question), self.tables.facts, [(j, k, [span])], [])


def _now(answer, known):
    """The rows of an answer about the pending rows behind a known number, with the spans of their moments."""
    _, relation = answer
    return [(row, at_known(region, known + 1)) for row, region in relation]
