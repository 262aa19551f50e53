"""The store: what is committed."""

from pastamended.copies import copied
from pastamended.errors import RuleBroken
from pastamended.tables import Tables
from pastamended.transactions import Transaction


class Store:
    """Tables with their facts at each known number up to that of the last commit."""

    def __init__(self):
        self.known = 0
        self.tables = Tables()

    def begin(self):
        """A new transaction."""
        return Transaction(self)

    def relations(self):
        """The facts of the tables."""
        return self.tables.relations()

    def schemas(self):
        """The schemas of the tables."""
        return self.tables.schemas()

    def table_names(self):
        """The names of the tables in the order in which they were made."""
        return list(self.tables.facts)

    def text_of(self, name):
        """The text of a table."""
        return self.tables.texts[name]

    def rules_of(self, name):
        """The rules of a table."""
        return copied(self.tables.rules[name])

    def prepare(self, transaction):
        """The transaction, or its replay, as it can be committed now; None if it changed nothing in effect."""
        prepared = transaction if transaction.known == self.known else transaction.replayed()
        if prepared.tables.same_as(self.tables):
            return None
        broken = prepared.tables.broken_at(self.known + 1)
        if broken is not None:
            table, rule, moment = broken
            raise RuleBroken(table, rule, moment)
        return prepared

    def commit(self, transaction):
        """Commits the transaction and returns the known number."""
        self.take(self.prepare(transaction))
        transaction.undo()
        return self.known

    def take(self, prepared):
        """Makes the relations of a prepared transaction those of the store; None changes nothing."""
        if prepared is not None:
            self.become(prepared.tables, self.known + 1)

    def become(self, tables, known):
        """Gives the store these tables and this known number."""
        self.tables = tables.duplicate()
        self.known = known
