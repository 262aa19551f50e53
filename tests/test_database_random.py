"""Databases in random runs, with several transactions, full disks and losses of power, held against a second store."""

import random
import unittest

from model import MOMENTS, ModelStore, TextMaker, check_answer, check_store, meaning_of, outcome
from pastamended.database import Database
from pastamended.disk import Disk
from pastamended.images import image_text
from pastamended.reading import read_statement
from pastamended.records import record_blocks
from pastamended.relations import cut
from pastamended.writing import write_statement
from power import blocks_of


class Run:
    """One database with the second store beside it; a pair is a transaction and that of the second store."""

    def __init__(self, case, source, size, chance_of_loss):
        self.case = case
        self.source = source
        self.chance_of_loss = chance_of_loss
        self.disk = Disk(size)
        self.model = ModelStore()
        self.maker = TextMaker(source)
        self.seen = {}
        self.kept = []
        self.restart()

    def restart(self):
        self.database = Database(self.disk)
        self.pairs = [(None, self.model.begin()), *[(self.database.begin(), self.model.begin()) for _ in range(2)]]
        # The texts of each transaction's statements that are not questions.
        self.texts = {id(other): [] for _, other in self.pairs}

    def step(self):
        pair = self.source.choice(self.pairs)
        chance = self.source.random()
        if chance < 0.7:
            self.execute(*pair)
        elif chance < 0.9:
            self.commit(*pair)
        elif chance < 0.94:
            self.database.undo(pair[0])
            self.undo(pair[1])
        elif chance < 0.98:
            self.checkpoint()
        else:
            self.disk.restart(0)
            self.restart()
        self.check()

    def undo(self, other):
        other.undo()
        self.texts[id(other)] = []

    def note(self, word):
        self.seen[word] = self.seen.get(word, 0) + 1

    def execute(self, transaction, other):
        text = self.maker.statement(other.schemas, other.known)
        found = outcome(self.database.execute, text, transaction)
        meaning = meaning_of(text, other.schemas)
        expected = outcome(other.apply, meaning)
        self.note(expected[0])
        if expected[0] not in ("made", "changed", "answer"):
            self.case.assertEqual(found, expected)
            return
        check_answer(self.case, found, expected, other.known)
        if expected[0] != "answer":
            self.texts[id(other)].append(write_statement(read_statement(text)))
        elif meaning[3] is not None and outcome(meaning_of, text, self.model.schemas) == meaning:
            # A question about committed tables and earlier known numbers: its answer stays the same.
            self.kept.append((text, found))

    def commit(self, transaction, other):
        text = "\n".join(self.texts[id(other)])
        store, before, full = self.database.store, self.database.store.relations(), self.is_full(text)
        self.maybe_fall()
        found = outcome(self.database.commit, transaction)
        self.disk.fall_after(None)
        if found == ("PowerLost", {}):
            self.note("lost in commit")
            self.lose(other)
        elif found == ("DiskFull", {}):
            self.note("full")
            self.case.assertTrue(full)
            self.case.assertEqual((store.known, store.relations()), (self.model.known, before))
        else:
            expected = outcome(self.model.commit, other)
            self.case.assertEqual(found, expected)
            self.note("commit" if isinstance(found, int) else found[0])
            if isinstance(found, int):
                self.texts[id(other)] = []

    def is_full(self, text):
        """Whether neither the log has room for a record with this text nor a checkpoint gives it that room."""
        area = (self.disk.size - 1) // 3
        log = self.disk.size - 2 * area - 1
        wanted = len(record_blocks(0, 1, text))
        used = sum([len(record_blocks(0, 1, one)) for _, one in self.database.journal.records()])
        return used + wanted > log and (wanted > log or self.image_blocks() > area)

    def image_blocks(self):
        return len(record_blocks(0, 1, image_text(self.database.store)))

    def checkpoint(self):
        self.maybe_fall()
        area = (self.disk.size - 1) // 3
        found = outcome(self.database.checkpoint)
        self.disk.fall_after(None)
        if found == ("PowerLost", {}):
            self.note("lost in checkpoint")
            self.lose(None)
        else:
            self.note("checkpoint")
            self.case.assertEqual(found, ("DiskFull", {}) if self.image_blocks() > area else None)

    def maybe_fall(self):
        if self.source.random() < self.chance_of_loss:
            self.disk.fall_after(self.source.randrange(8))

    def lose(self, other):
        """Restarts; the commit of a transaction in which the power was lost is there, or is not."""
        for function in (self.database.begin, self.database.commit, self.database.undo, self.database.checkpoint):
            self.case.assertEqual(outcome(function), ("Stopped", {}))
        self.case.assertEqual(outcome(self.database.execute, ""), ("Stopped", {}))
        self.power_again()
        while self.source.random() < 0.3:
            self.disk.fall_after(self.source.randrange(4))
            if outcome(Database, self.disk) == ("PowerLost", {}):
                self.power_again()
        self.disk.fall_after(None)
        known = Database(self.disk).store.known
        if other is not None and known == self.model.known + 1:
            self.note("lasts")
            self.model.commit(other)
        self.case.assertEqual(self.model.known, known)
        self.restart()

    def power_again(self):
        """Restarts the disk; often all of the waiting writes last, or none of them."""
        every = 2 ** self.disk.waiting() - 1
        self.disk.restart(self.source.choice([0, every, every, self.source.randrange(every + 1)]))

    def check(self):
        check_store(self.case, self.database.store, self.model)
        for transaction, other in self.pairs:
            one = self.database.transaction if transaction is None else transaction
            self.case.assertEqual((one.known, one.schemas()), (other.known, other.schemas))
            relations = one.relations()
            for name in relations:
                for m in MOMENTS:
                    self.case.assertEqual(cut(relations[name], m, other.known + 1), other.pending[name][m])
        blocks = blocks_of(self.disk)
        journal = self.database.journal
        self.case.assertEqual(blocks[0], f"root {journal.generation}" if journal.generation else "")

    def check_kept(self):
        for text, answer in self.kept:
            self.case.assertEqual(self.database.execute(text, self.database.begin()), answer)


class RandomTest(unittest.TestCase):
    def run_some(self, seeds, sizes, chance_of_loss):
        seen = {}
        for seed in seeds:
            source = random.Random(seed)
            run = Run(self, source, source.choice(sizes), chance_of_loss)
            for _ in range(50):
                run.step()
            run.check_kept()
            run.restart()
            run.check()
            run.check_kept()
            for word, count in run.seen.items():
                seen[word] = seen.get(word, 0) + count
        return seen

    def check_seen(self, seen, words, least):
        for word in words:
            self.assertGreater(seen.get(word, 0), least, word)

    def test_without_losses(self):
        seen = self.run_some(range(30), [400, 900], 0)
        self.check_seen(seen, ("made", "changed", "answer", "commit", "Conflict", "RuleBroken", "checkpoint"), 15)

    def test_with_losses(self):
        seen = self.run_some(range(100, 150), [200, 400], 0.6)
        self.check_seen(seen, ("commit", "lost in commit", "lost in checkpoint"), 10)
        self.check_seen(seen, ("lasts",), 2)

    def test_small_disks(self):
        seen = self.run_some(range(200, 250), range(8, 90), 0.3)
        self.check_seen(seen, ("commit", "full", "checkpoint", "lost in commit"), 10)
        self.check_seen(seen, ("lasts",), 2)


if __name__ == "__main__":
    unittest.main()
