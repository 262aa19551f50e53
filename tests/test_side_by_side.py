"""Several transactions side by side, held against a second store and against a serial run."""

import random
import unittest

from model import MOMENTS, ModelStore, TextMaker, check_answer, check_store, do, meaning_of, outcome
from pastamended.relations import cut
from pastamended.store import Store


class SideBySideTest(unittest.TestCase):
    def test_random_statements(self):
        seen = {}
        for seed in range(120):
            self.run_one(random.Random(seed), seen)
        for word in ("made", "changed", "answer", "NotYetKnown", "commit", "Conflict", "RuleBroken"):
            self.assertGreater(seen[word], 50, word)

    def run_one(self, source, seen):
        maker = TextMaker(source)
        store, model = Store(), ModelStore()
        pairs = [(store.begin(), model.begin()) for _ in range(3)]
        committed = []
        for _ in range(50):
            transaction, other = source.choice(pairs)
            chance = source.random()
            if chance < 0.75:
                text = maker.statement(other.schemas, other.known)
                word = self.check_statement(text, transaction, other)
            elif chance < 0.97:
                word = self.check_commit(store, model, transaction, other, committed)
            else:
                self.assertIsNone(transaction.undo())
                other.undo()
                word = "undo"
            if word in ("Conflict", "RuleBroken") and source.random() < 0.7:
                transaction.undo()
                other.undo()
            seen[word] = seen.get(word, 0) + 1
            self.check_transaction(transaction, other)
        self.check_serial_run(store, committed)

    def check_statement(self, text, transaction, other):
        meaning = meaning_of(text, transaction.schemas())
        expected = outcome(other.apply, meaning)
        found = outcome(transaction.apply, meaning, text)
        if expected[0] in ("answer", "changed", "made"):
            check_answer(self, found, expected, other.known)
        else:
            self.assertEqual(found, expected, text)
        return expected[0]

    def check_commit(self, store, model, transaction, other, committed):
        known, before, texts = store.known, store.relations(), transaction.texts_of_changes()
        prepared = outcome(store.prepare, transaction)
        self.assertEqual((store.known, store.relations()), (known, before))
        expected = outcome(model.commit, other)
        self.assertEqual(outcome(store.commit, transaction), expected)
        if expected == known:
            self.assertIsNone(prepared)
        elif isinstance(expected, tuple):
            self.assertEqual(prepared, expected)
        else:
            committed.append(texts)
        check_store(self, store, model)
        return expected[0] if isinstance(expected, tuple) else "commit"

    def check_transaction(self, transaction, other):
        self.assertEqual(transaction.known, other.known)
        self.assertEqual(transaction.schemas(), other.schemas)
        relations = transaction.relations()
        self.assertEqual(list(relations), list(other.pending))
        for name in relations:
            for m in MOMENTS:
                self.assertEqual(cut(relations[name], m, other.known + 1), other.pending[name][m])
                self.assertEqual(cut(relations[name], m, other.known), other.store.rows(name, m, other.known))

    def check_serial_run(self, store, committed):
        """The commits one behind the other, without any transaction beside, make the same store."""
        serial = Store()
        for texts in committed:
            transaction = serial.begin()
            for text in texts:
                do(transaction, text)
            serial.commit(transaction)
        self.assertEqual(serial.known, store.known)
        self.assertEqual(serial.relations(), store.relations())
        self.assertEqual(serial.schemas(), store.schemas())


if __name__ == "__main__":
    unittest.main()
