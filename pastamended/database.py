"""The whole database: a store that lasts on a disk."""

from pastamended.checking import check_statement
from pastamended.errors import PowerLost, Stopped
from pastamended.images import image_text, store_of
from pastamended.journal import Journal
from pastamended.reading import read_statement
from pastamended.writing import write_statement


class Database:
    """Executes the texts of statements, and writes each commit to a journal before the store changes."""

    def __init__(self, disk):
        self.stopped = False
        self.journal = Journal(disk)
        self.store = store_of(self.journal.image, self.journal.image_number)
        for _, text in self.journal.records():
            self._commit_again(text)
        self.transaction = self.store.begin()

    def begin(self):
        """A new transaction."""
        self._check_running()
        return self.store.begin()

    def execute(self, text, transaction=None):
        """The answer of the statement with this text in a transaction, or in its own one."""
        self._check_running()
        return _executed(text, self._chosen(transaction))

    def commit(self, transaction=None):
        """Commits a transaction, or its own one, and returns the known number."""
        self._check_running()
        chosen = self._chosen(transaction)
        prepared = self.store.prepare(chosen)
        if prepared is not None:
            self._write("\n".join(prepared.texts_of_changes()))
            self.store.take(prepared)
        chosen.undo()
        return self.store.known

    def undo(self, transaction=None):
        """Undoes a transaction, or its own one."""
        self._check_running()
        self._chosen(transaction).undo()

    def checkpoint(self):
        """Writes an image of the store to the journal."""
        self._check_running()
        try:
            self.journal.checkpoint(image_text(self.store))
        except PowerLost:
            self.stopped = True
            raise

    def _write(self, text):
        """Writes a record to the journal, behind a checkpoint if there is no room for it."""
        if not self.journal.has_room(text):
            self.checkpoint()
        try:
            self.journal.write_record(text)
        except PowerLost:
            self.stopped = True
            raise

    def _commit_again(self, text):
        """Commits the statements of a record."""
        transaction = self.store.begin()
        for line in text.split("\n"):
            _executed(line, transaction)
        self.store.commit(transaction)

    def _chosen(self, transaction):
        return self.transaction if transaction is None else transaction

    def _check_running(self):
        if self.stopped:
            raise Stopped()


def _executed(text, transaction):
    """The answer of the statement with this text in a transaction."""
    tree = read_statement(text)
    meaning = check_statement(tree, transaction.schemas())
    return transaction.apply(meaning, write_statement(tree))
