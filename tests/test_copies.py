"""Lists and dicts that were passed or returned may change later: nothing that is kept changes with them."""

import unittest

from model import do, meaning_of
from pastamended.copies import copied, copied_relation
from pastamended.errors import Conflict
from pastamended.store import Store
from pastamended.values import END

STAFF = "table staff (name text, pay number) key (name) require pay < 9 most 3"


def spoil(value):
    """Empties all lists and dicts within a value, from the inside."""
    if isinstance(value, dict):
        for part in list(value.values()):
            spoil(part)
        value.clear()
    elif isinstance(value, (list, tuple)):
        for part in value:
            spoil(part)
        if isinstance(value, list):
            value.clear()


class CopiesTest(unittest.TestCase):
    def setUp(self):
        self.store = Store()
        self.transaction = self.store.begin()
        do(self.transaction, STAFF)
        do(self.transaction, 'insert staff ("ann", 3), ("bob", 4) from 10 to 50')
        self.store.commit(self.transaction)

    def state(self):
        return copied((self.store.relations(), self.store.schemas(), self.store.rules_of("staff"),
                       self.store.table_names(), self.transaction.relations(), self.transaction.schemas()))

    def test_spoiling(self):
        value = {"a": [1, (2, [3])], "b": ([],)}
        inner = value["a"][1]
        spoil(value)
        self.assertEqual((value, inner), ({}, (2, [])))

    def test_copies(self):
        value = {"a": [1, (2, [3])], "b": ("x", [], None)}
        other = copied(value)
        self.assertEqual(other, value)
        spoil(value)
        self.assertEqual(other, {"a": [1, (2, [3])], "b": ("x", [], None)})
        relation = [((1, "a"), [(0, 3, [(0, 4)])])]
        other = copied_relation(relation)
        spoil(relation)
        self.assertEqual(other, [((1, "a"), [(0, 3, [(0, 4)])])])

    def test_what_stores_and_transactions_return(self):
        before = self.state()
        for function in (self.store.relations, self.store.schemas, self.store.table_names,
                         self.transaction.relations, self.transaction.schemas):
            spoil(function())
            self.assertEqual(self.state(), before)
        spoil(self.store.rules_of("staff"))
        self.assertEqual(self.state(), before)
        self.assertEqual(do(self.transaction, "update staff set pay = 5 at 20"), ("changed", 4))
        spoil(self.transaction.relations())
        self.assertEqual(self.store.commit(self.transaction), 2)

    def test_meanings_that_were_applied(self):
        meanings = [("table", "t", [("a", "number"), ("b", "number")], [("key", [1]), ("most", 2)])]
        meanings += [meaning_of(text, self.transaction.schemas()) for text in (
            'insert staff ("eve", 1) from 20 to 30',
            "update staff set pay = pay + 1 where exists (select 1 from staff as x where x.pay = 1) always",
            "select name, count from staff where pay > 1 group name having count > 0 from 0 to 40",
        )]
        answers = [self.transaction.apply(copied(meaning)) for meaning in meanings]
        self.transaction.undo()
        for meaning, answer in zip(meanings, answers):
            self.assertEqual(self.transaction.apply(meaning), answer)
            spoil(meaning)
        self.assertEqual(self.transaction.schemas()["t"], ([("a", "number"), ("b", "number")], [1]))
        other = self.store.begin()
        do(other, "table u (a number)")
        self.store.commit(other)
        # The replay does the statements once more.
        self.assertEqual(self.store.commit(self.transaction), 3)
        self.assertEqual(self.store.rules_of("t"), [("key", [1]), ("most", 2)])

    def test_answers_that_were_returned(self):
        question = "select name, pay from staff"
        expected = copied(do(self.transaction, question))
        before = self.state()
        for text in (question, question + " from 10 to 50", question + " known 0 to 2", question + " known 1"):
            answer = do(self.transaction, text)
            spoil(answer)
            self.assertEqual(self.state(), before)
        self.assertEqual(do(self.transaction, question), expected)
        do(self.transaction, 'insert staff ("eve", 1) from 60')
        other = self.store.begin()
        do(other, "table u (a number)")
        self.store.commit(other)
        self.assertEqual(self.store.commit(self.transaction), 3)

    def test_conflicts_behind_spoilt_answers(self):
        answer = do(self.transaction, "select name from staff where pay = 7")
        answer[1].append((("x",), [(2, 3, [(0, END)])]))
        other = self.store.begin()
        do(other, "update staff set pay = 7 at 20")
        self.store.commit(other)
        with self.assertRaises(Conflict) as raised:
            self.store.commit(self.transaction)
        self.assertEqual(raised.exception.index, 0)

    def test_one_transaction_and_another(self):
        other = self.store.begin()
        do(self.transaction, "delete staff always")
        self.assertEqual(other.relations(), self.store.relations())
        prepared = self.store.prepare(self.transaction)
        self.store.commit(prepared)
        do(prepared, 'insert staff ("eve", 1) always')
        self.assertEqual(len(self.store.relations()["staff"]), 2)
        self.assertEqual(do(self.store.begin(), "select name from staff"), ("answer", []))


if __name__ == "__main__":
    unittest.main()
