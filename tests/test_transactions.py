import unittest

from helpers import Unchanged
from model import do, meaning_of
from pastamended.errors import NotYetKnown
from pastamended.store import Store
from pastamended.transactions import Transaction
from pastamended.values import END, OPEN

STAFF = "table staff (name text, pay number) key (name)"
PLACES = "table places (name text)"


def always(row):
    return (row, [(1, OPEN, [(0, END)])])


class TransactionTest(unittest.TestCase):
    def setUp(self):
        self.store = Store()
        self.transaction = Transaction(self.store)

    def do(self, text):
        return do(self.transaction, text)

    def relation(self, name="staff"):
        return self.transaction.relations()[name]

    def check_refused(self, text, error, **fields):
        before = (self.transaction.relations(), self.transaction.schemas(), self.transaction.known)
        with self.assertRaises(error) as raised:
            self.do(text)
        for name, value in fields.items():
            self.assertEqual(getattr(raised.exception, name), value)
        self.assertEqual((self.transaction.relations(), self.transaction.schemas(), self.transaction.known), before)


class ChangesTest(TransactionTest):
    def test_begin(self):
        self.assertEqual(self.transaction.known, 0)
        self.assertEqual(self.transaction.schemas(), {})
        self.assertEqual(self.transaction.relations(), {})

    def test_tables(self):
        self.assertEqual(self.do(STAFF), ("made", "staff"))
        self.assertEqual(self.do(PLACES), ("made", "places"))
        self.assertEqual(self.do("table pairs (a number, b text, c number) key (c, a) most 3"), ("made", "pairs"))
        self.assertEqual(self.transaction.schemas(), {
            "staff": ([("name", "text"), ("pay", "number")], [0]), "places": ([("name", "text")], None),
            "pairs": ([("a", "number"), ("b", "text"), ("c", "number")], [2, 0]),
        })
        self.assertEqual(list(self.transaction.schemas()), ["staff", "places", "pairs"])
        self.assertEqual(self.transaction.relations(), {"staff": [], "places": [], "pairs": []})
        self.assertEqual(list(self.transaction.relations()), ["staff", "places", "pairs"])
        self.assertEqual(self.store.table_names(), [])
        self.assertEqual(self.transaction.known, 0)

    def test_the_first_key_rule_is_the_key(self):
        self.do("table t (a number, b number) most 2 key (b) require a > 0")
        self.assertEqual(self.transaction.schemas()["t"][1], [1])

    def test_insert(self):
        self.do(STAFF)
        self.assertEqual(self.do('insert staff ("bob", 3), ("ann", 5) from 10 to 50'), ("changed", 80))
        self.assertEqual(self.relation(), [(("ann", 5), [(1, OPEN, [(10, 50)])]), (("bob", 3), [(1, OPEN, [(10, 50)])])])
        self.assertEqual(self.do('insert staff ("ann", 5) from 40'), ("changed", END - 50))
        self.assertEqual(self.relation()[0], (("ann", 5), [(1, OPEN, [(10, END)])]))
        self.assertEqual(self.do('insert staff ("ann", 5), ("ann", 5) at 20'), ("changed", 0))
        self.assertEqual(self.do('insert staff ("eve", 1 - 3) always'), ("changed", END))
        self.assertEqual(self.relation()[2], always(("eve", -2)))
        self.assertEqual(self.do('insert staff ("ann", 5) at 3'), ("changed", 1))
        self.assertEqual(self.relation()[0][1], [(1, OPEN, [(3, 4), (10, END)])])
        self.assertEqual(self.store.relations(), {})

    def test_update(self):
        self.do(STAFF)
        self.do('insert staff ("ann", 5), ("bob", 3) from 10 to 50')
        self.assertEqual(self.do("update staff set pay = pay * 2 where pay > 4 from 20 to 30"), ("changed", 20))
        self.assertEqual(self.relation(), [
            (("ann", 5), [(1, OPEN, [(10, 20), (30, 50)])]), (("ann", 10), [(1, OPEN, [(20, 30)])]),
            (("bob", 3), [(1, OPEN, [(10, 50)])]),
        ])
        self.assertEqual(self.do("update staff set pay = pay always"), ("changed", 0))
        self.assertEqual(self.do('update staff set name = "x", pay = 0 from 45 to 60'), ("changed", 15))
        self.assertEqual(self.relation()[3], (("x", 0), [(1, OPEN, [(45, 50)])]))

    def test_update_with_exists(self):
        self.do(STAFF)
        self.do(PLACES)
        self.do('insert staff ("ann", 5), ("bob", 3) from 10 to 50')
        self.do('insert places ("bob") from 20 to 30')
        there = "exists (select 1 from places where places.name = staff.name)"
        self.assertEqual(self.do(f"update staff set pay = 9 where {there} always"), ("changed", 20))
        self.assertEqual(self.relation()[1:], [
            (("bob", 3), [(1, OPEN, [(10, 20), (30, 50)])]), (("bob", 9), [(1, OPEN, [(20, 30)])])])

    def test_delete(self):
        self.do(STAFF)
        self.do('insert staff ("ann", 5), ("bob", 3) from 10 to 50')
        self.assertEqual(self.do("delete staff where pay = 3 from 20 to 25"), ("changed", 5))
        self.assertEqual(self.relation()[1], (("bob", 3), [(1, OPEN, [(10, 20), (25, 50)])]))
        self.assertEqual(self.do("delete staff where pay = 4 always"), ("changed", 0))
        self.assertEqual(self.do("delete staff from 0 to 11"), ("changed", 2))
        self.assertEqual(self.do("delete staff always"), ("changed", 34 + 39))
        self.assertEqual(self.relation(), [])

    def test_the_last_moment(self):
        self.do(PLACES)
        self.assertEqual(self.do(f'insert places ("x") at {END - 1}'), ("changed", 1))
        self.assertEqual(self.relation("places"), [(("x",), [(1, OPEN, [(END - 1, END)])])])

    def test_changes_behind_a_commit(self):
        self.do(STAFF)
        self.do('insert staff ("ann", 5) from 10 to 50')
        self.store.commit(self.transaction)
        self.assertEqual(self.transaction.known, 1)
        self.do('insert staff ("ann", 5) from 50 to 60')
        self.assertEqual(self.relation(), [(("ann", 5), [(1, 2, [(10, 50)]), (2, OPEN, [(10, 60)])])])
        self.do("delete staff always")
        self.assertEqual(self.relation(), [(("ann", 5), [(1, 2, [(10, 50)])])])
        self.do('insert staff ("ann", 5) from 10 to 50')
        self.assertEqual(self.relation(), [(("ann", 5), [(1, OPEN, [(10, 50)])])])
        self.assertEqual(self.store.relations()["staff"], self.relation())

    def test_arguments_stay_as_they_are(self):
        unchanged = Unchanged(self)
        for text in (STAFF, 'insert staff ("ann", 5) from 10', "update staff set pay = 1 at 20",
                     "select name from staff where exists (select 1 from staff)"):
            unchanged(self.transaction.apply, meaning_of(text, self.transaction.schemas()), text)


class QuestionsTest(TransactionTest):
    def setUp(self):
        super().setUp()
        self.do(STAFF)
        self.do('insert staff ("ann", 5) from 10 to 50')
        self.store.commit(self.transaction)
        self.do("update staff set pay = 6 from 20")
        self.store.commit(self.transaction)
        self.do('insert staff ("bob", 3) from 0 to 20')

    def test_pending_rows(self):
        self.assertEqual(self.do("select name, pay from staff"), ("answer", [
            (("ann", 5), [(3, 4, [(10, 20)])]), (("ann", 6), [(3, 4, [(20, 50)])]), (("bob", 3), [(3, 4, [(0, 20)])])]))
        self.assertEqual(self.do("select pay from staff from 15 to 25"), ("answer", [
            ((3,), [(3, 4, [(15, 20)])]), ((5,), [(3, 4, [(15, 20)])]), ((6,), [(3, 4, [(20, 25)])])]))
        self.assertEqual(self.do("select count from staff at 12"), ("answer", [((2,), [(3, 4, [(12, 13)])])]))
        self.assertEqual(self.do("select name from staff at 60"), ("answer", []))

    def test_known_numbers(self):
        self.assertEqual(self.do("select name, pay from staff known 0"), ("answer", []))
        self.assertEqual(self.do("select name, pay from staff known 1"), ("answer", [(("ann", 5), [(1, 2, [(10, 50)])])]))
        self.assertEqual(self.do("select pay from staff from 30 known 0 to 3"), ("answer", [
            ((5,), [(1, 2, [(30, 50)])]), ((6,), [(2, 3, [(30, 50)])])]))
        self.assertEqual(self.do("select name from staff known 0 to 3"), ("answer", [(("ann",), [(1, 3, [(10, 50)])])]))
        self.assertEqual(self.do("select count from staff where pay = 3 known 2"), ("answer", []))

    def test_not_yet_known(self):
        for part, known in (("3", 3), ("2 to 4", 3), ("0 to 10", 9), (str(OPEN - 1), OPEN - 1), (f"0 to {OPEN}", OPEN - 1)):
            self.check_refused(f"select name from staff known {part}", NotYetKnown, known=known)

    def test_a_refused_question_is_no_statement(self):
        self.check_refused("select name from staff known 3", NotYetKnown, known=3)
        other = self.store.begin()
        do(other, PLACES)
        self.store.commit(other)
        self.assertEqual(self.store.commit(self.transaction), 4)

    def test_tables_made_in_the_transaction(self):
        self.do(PLACES)
        self.do('insert places ("ann") from 40 to 70')
        both = "select staff.name from staff, places where staff.name = places.name"
        self.assertEqual(self.do(both), ("answer", [(("ann",), [(3, 4, [(40, 50)])])]))
        self.assertEqual(self.do(f"{both} known 0 to 3"), ("answer", []))
        self.assertEqual(self.do("select name from staff except select name from places known 2"),
                         ("answer", [(("ann",), [(2, 3, [(10, 50)])])]))

    def test_questions_change_nothing(self):
        before = (self.transaction.relations(), self.store.relations())
        for text in ("select name from staff", "select name from staff known 1", "select name from staff at 3"):
            self.do(text)
        self.assertEqual((self.transaction.relations(), self.store.relations()), before)

    def test_meanings_with_truths(self):
        table = ("select", [("cell", 0, 0, 1)], ["staff"], ("truth", True), None, None)
        self.assertEqual(self.transaction.apply(("ask", table, (0, END), None)), self.do("select pay from staff"))
        nothing = ("delete", "staff", ("and", ("truth", True), ("truth", False)), (0, END))
        self.assertEqual(self.transaction.apply(nothing), ("changed", 0))
        self.assertEqual(self.transaction.apply(("delete", "staff", ("truth", True), (0, END))), ("changed", 60))


class UndoTest(TransactionTest):
    def test_undo(self):
        self.do(STAFF)
        self.do('insert staff ("ann", 5) always')
        self.assertIsNone(self.transaction.undo())
        self.assertEqual(self.transaction.relations(), {})
        self.assertEqual(self.transaction.schemas(), {})
        self.assertEqual(self.store.commit(self.transaction), 0)
        self.assertEqual(self.do(STAFF), ("made", "staff"))

    def test_undo_begins_with_what_is_committed_now(self):
        self.do(PLACES)
        other = self.store.begin()
        do(other, STAFF)
        do(other, 'insert staff ("ann", 5) always')
        self.store.commit(other)
        self.assertEqual((self.transaction.known, list(self.transaction.relations())), (0, ["places"]))
        self.transaction.undo()
        self.assertEqual(self.transaction.known, 1)
        self.assertEqual(self.transaction.relations(), {"staff": [always(("ann", 5))]})
        self.assertEqual(self.transaction.schemas(), self.store.schemas())

    def test_a_transaction_keeps_what_it_began_with(self):
        other = self.store.begin()
        self.do(STAFF)
        self.store.commit(self.transaction)
        self.assertEqual((other.known, other.relations(), other.schemas()), (0, {}, {}))
        later = self.store.begin()
        self.do('insert staff ("ann", 5) always')
        self.store.commit(self.transaction)
        self.assertEqual((later.known, later.relations()), (1, {"staff": []}))
        self.assertEqual(do(later, "select name from staff"), ("answer", []))


if __name__ == "__main__":
    unittest.main()
